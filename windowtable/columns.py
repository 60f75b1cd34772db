"""Computed columns (k1, k2)."""

from windowtable.fitting import all_columns, parts
from windowtable.functions import partition_values
from windowtable.ordering import by_ids, partitions


def column_of(definition, columns, rows):
    """A dict from the ids of rows to the values of a definition that fits the columns."""
    numbers, keys, column = parts(definition, columns)
    cells_of = {row_id: cells for row_id, cells in rows}
    found = {}
    for ids in partitions(rows, numbers):
        members = tuple([(row_id, cells_of[row_id]) for row_id in ids])
        found.update(partition_values(members, keys, definition, column))
    return {row_id: found[row_id] for row_id in sorted(found)}


def evaluate(columns, definitions, rows):
    """The tuple of the rows by ascending ids with all their cells, rows having the base cells."""
    known = all_columns(columns, definitions)
    told = tuple(by_ids(rows))
    for number, definition in enumerate(definitions):
        values = column_of(definition, known[:len(columns) + number], told)
        told = with_values(told, values)
    return told


def with_values(rows, values):
    """The tuple of rows with one cell more each, values being a dict from their ids."""
    return tuple([(row_id, cells + (values[row_id],)) for row_id, cells in rows])
