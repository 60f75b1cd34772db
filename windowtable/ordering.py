"""Partitions of rows, and rows in order with their groups of peers (o1, o2)."""

from windowtable.values import key_of


def by_ids(rows):
    """The list of rows by ascending ids."""
    return sorted(rows, key=lambda row: row[0])


def cells_at(cells, numbers):
    """The tuple of the cells in the columns of these numbers."""
    return tuple([cells[number] for number in numbers])


def values_key(cells, numbers):
    """A tuple that is the same for cells with the same values in the columns of these numbers, and sorts them."""
    return tuple([key_of(cells[number]) for number in numbers])


def partitions(rows, numbers):
    """The list of the tuples of the ids of each partition by the columns of these numbers."""
    found = {}
    for row_id, cells in by_ids(rows):
        found.setdefault(values_key(cells, numbers), []).append(row_id)
    return [tuple(found[key]) for key in sorted(found)]


def partition_of(rows, numbers, row_id):
    """The tuple of the rows of the partition of a row, by the columns of these numbers."""
    found = {other: values_key(cells, numbers) for other, cells in rows}
    return tuple([row for row in rows if found[row[0]] == found[row_id]])


def by_column(rows, column, descending):
    """The list of rows by their values in a column; where these are the same, rows stay as they stood."""
    if descending:
        return sorted(rows, key=lambda row: key_of(row[1][column]), reverse=True)
    return sorted(rows, key=lambda row: key_of(row[1][column]))


def ordered_rows(rows, keys):
    """The list of rows in order by keys."""
    told = by_ids(rows)
    # Each sorting keeps what the ones ahead of it did among equal values, so the first key has to come last.
    for column, descending in reversed(keys):
        told = by_column(told, column, descending)
    return told


def ordered(rows, keys):
    """The list of the ids of rows in order by keys."""
    return [row_id for row_id, _ in ordered_rows(rows, keys)]


def groups(rows, keys):
    """The list of the tuples of the ids of peers, in order by keys."""
    numbers = [column for column, _ in keys]
    found = {}
    for row_id, cells in ordered_rows(rows, keys):
        found.setdefault(values_key(cells, numbers), []).append(row_id)
    return [tuple(found[key]) for key in found]


def group_numbers(rows, keys):
    """The list of the numbers, from 0, of the groups of the rows in order."""
    numbers = []
    for number, group in enumerate(groups(rows, keys)):
        numbers.extend([number for _ in group])
    return numbers
