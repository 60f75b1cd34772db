"""What changes of rows can reach, and working out that alone (r1, r2)."""

from windowtable.columns import column_of, with_values
from windowtable.fitting import all_columns, parts
from windowtable.ordering import by_ids, partitions, values_key


def looks_at(definition, columns):
    """The ascending tuple of the numbers of the columns that a definition looks at."""
    numbers, keys, column = parts(definition, columns)
    found = list(numbers) + [number for number, _ in keys]
    if column is not None:
        found.append(column)
    return tuple(sorted(set(found)))


def moved_ids(ahead, behind, numbers):
    """The list of the ids of moved rows, rows being told as dicts from ids to cells, columns by their numbers."""
    return [row_id for row_id in sorted(set(list(ahead) + list(behind))) if is_moved(row_id, ahead, behind, numbers)]


def is_moved(row_id, ahead, behind, numbers):
    """Whether a row came, went, or has another value in a column with one of these numbers."""
    if row_id not in ahead or row_id not in behind:
        return True
    return values_key(ahead[row_id], numbers) != values_key(behind[row_id], numbers)


def touched(definition, columns, rows, others):
    """The list of the tuples of the ids of the touched partitions of others, rows being those ahead."""
    numbers, _, _ = parts(definition, columns)
    ahead = {row_id: cells for row_id, cells in rows}
    behind = {row_id: cells for row_id, cells in others}
    reached = {}
    for row_id in moved_ids(ahead, behind, looks_at(definition, columns)):
        # A row reaches the partition that it left as well as the one that it came to.
        for cells_of in (ahead, behind):
            if row_id in cells_of:
                reached[values_key(cells_of[row_id], numbers)] = True
    return [ids for ids in partitions(others, numbers) if values_key(behind[ids[0]], numbers) in reached]


def renew(columns, definitions, old, base):
    """The rows behind with all cells, and how many of them were worked out anew for each definition."""
    known = all_columns(columns, definitions)
    told = tuple(by_ids(base))
    counts = []
    for number, definition in enumerate(definitions):
        place = len(columns) + number
        anew = rows_to_renew(definition, known[:place], old, told)
        values = {row_id: cells[place] for row_id, cells in old}
        values.update(column_of(definition, known[:place], anew))
        told = with_values(told, values)
        counts.append(len(anew))
    return (told, tuple(counts))


def rows_to_renew(definition, columns, rows, others):
    """The tuple of those of others that are in touched partitions."""
    reached = {row_id: True for ids in touched(definition, columns, rows, others) for row_id in ids}
    return tuple([row for row in others if row[0] in reached])
