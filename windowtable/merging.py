"""Two lists of changes for the same rows, merged (x1 to x3)."""

from windowtable.changes import apply, cells_behind, changes_by_row, have_one_width, sets_between
from windowtable.errors import BadFit


def clashes(left, right):
    """The list of the pairs (id, column or None) at which two lists clash."""
    others = changes_by_row(right)
    told = []
    for row_id, changes in changes_by_row(left).items():
        if row_id in others:
            told.extend([(row_id, column) for column in clashing(changes, others[row_id])])
    return told


def clashing(first, second):
    """The list of the columns at which two lists of changes of one row clash, None standing for the whole row."""
    words = (first[0][0], second[0][0])
    if words == ("set", "set"):
        after = {change[2]: change[4] for change in second}
        return [change[2] for change in first if after.get(change[2], change[4]) != change[4]]
    if words in (("remove", "set"), ("set", "remove")):
        return [None]
    return [None] if words == ("insert", "insert") and first != second else []


def turned(changes, other, rows, side, own):
    """A list of changes turned behind another one, own telling which one it is, side whose changes stand."""
    refuse_unfit(changes, other, rows)
    cells_of = {row_id: cells for row_id, cells in rows}
    others = changes_by_row(other)
    told = []
    for row_id, first in changes_by_row(changes).items():
        told.extend(turned_row(first, others.get(row_id, []), cells_of.get(row_id, ()), side == own))
    return told


def refuse_unfit(changes, other, rows):
    """Refuses two lists if they do not both fit the rows."""
    # Where there are no rows, each list alone can insert rows of any width.
    if not have_one_width(apply(rows, changes) + apply(rows, other)):
        raise BadFit()


def turned_row(first, second, cells, stands):
    """A list of changes of one row turned behind another one, cells being those of the row that both fit."""
    if not second:
        return first
    row_id = first[0][1]
    words = (first[0][0], second[0][0])
    if words == ("set", "set"):
        return turned_sets(first, second, stands)
    if not stands or not clashing(first, second):
        return []
    if words == ("insert", "insert"):
        return sets_between(row_id, second[0][2], first[0][2])
    if words == ("remove", "set"):
        return [("remove", row_id, cells_behind(cells, second))]
    return [("insert", row_id, cells_behind(cells, first))]


def turned_sets(first, second, stands):
    """A list of sets of one row turned behind another one."""
    made = {change[2]: change[4] for change in second}
    told = []
    for word, row_id, column, before, after in first:
        if column not in made:
            told.append((word, row_id, column, before, after))
        elif stands and made[column] != after:
            told.append((word, row_id, column, made[column], after))
    return told


def merged(rows, left, right, side):
    """The rows behind both lists."""
    behind = turned(right, left, rows, side, "right")
    return apply(apply(rows, left), behind)
