"""Deeds: why they are refused, what they make of rows, and their texts (d1, j1)."""

from windowtable.errors import BadDeed
from windowtable.fitting import kinds_by_name, numbers_by_name
from windowtable.literals import value_text
from windowtable.values import has_kind, is_base

MOST_ROWS = 16


def done(deeds, columns, known, rows, next_id):
    """The rows with base cells behind deeds, and the number that the next row gets.

    The base columns and all known columns are told, the rows with base cells, and the next number ahead.
    """
    cells_of = {row_id: cells for row_id, cells in rows}
    for deed in deeds:
        reason = refusal(deed, columns, known, cells_of)
        if reason:
            raise BadDeed(reason)
        if deed[0] == "insert":
            cells_of[next_id] = deed[1]
            next_id += 1
        elif deed[0] == "set":
            cells_of[deed[1]] = with_cell(cells_of[deed[1]], numbers_by_name(columns)[deed[2]], deed[3])
        else:
            del cells_of[deed[1]]
    return (tuple([(row_id, cells_of[row_id]) for row_id in sorted(cells_of)]), next_id)


def with_cell(cells, column, value):
    """The cells with another value in one column."""
    return cells[:column] + (value,) + cells[column + 1:]


def refusal(deed, columns, known, cells_of):
    """What keeps a deed from being done, the first reason there is; an empty text if nothing does."""
    word = deed[0]
    if word == "insert":
        return insert_refusal(deed[1], columns, len(cells_of))
    if deed[1] not in cells_of:
        return f"no row {deed[1]}"
    if word == "set":
        return set_refusal(deed[2], deed[3], columns, known)
    return ""


def insert_refusal(cells, columns, many):
    """What keeps a row from being inserted into a table of so many rows."""
    if len(cells) != len(columns):
        return "cells"
    for value, (_, kind) in zip(cells, columns):
        if not can_stand(value, kind):
            return "cells"
    return "too many rows" if many >= MOST_ROWS else ""


def set_refusal(name, value, columns, known):
    """What keeps a cell in the column of a name from being set to a value."""
    kinds = kinds_by_name(columns)
    if name not in kinds_by_name(known):
        return f"no column {name}"
    if name not in kinds:
        return f"computed column {name}"
    return "" if can_stand(value, kinds[name]) else f"kind of {name}"


def can_stand(value, kind):
    """Whether a value can stand in a base column of a kind."""
    return is_base(value) and has_kind(value, kind)


def written_deeds(deeds):
    """The text of deeds."""
    return "; ".join([deed_text(deed) for deed in deeds])


def deed_text(deed):
    """The text of a deed."""
    if deed[0] == "insert":
        written = ", ".join([value_text(value) for value in deed[1]])
        return f"insert {written}"
    if deed[0] == "set":
        _, row_id, name, value = deed
        return f"set {row_id} {name} {value_text(value)}"
    return f"remove {deed[1]}"
