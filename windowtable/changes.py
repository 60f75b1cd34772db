"""Canonical lists of changes between rows (c9, h1 to h4)."""

from windowtable.errors import BadArgument, BadFit


def have_one_width(rows):
    """Whether all rows have equally many cells."""
    return len({len(cells) for _, cells in rows}) <= 1


def between(rows, others):
    """The canonical list that leads from rows to others."""
    if not have_one_width(list(rows) + list(others)):
        raise BadArgument("cells")
    ahead = {row_id: cells for row_id, cells in rows}
    behind = {row_id: cells for row_id, cells in others}
    told = []
    for row_id in sorted(set(list(ahead) + list(behind))):
        if row_id not in behind:
            told.append(("remove", row_id, ahead[row_id]))
        elif row_id not in ahead:
            told.append(("insert", row_id, behind[row_id]))
        else:
            told.extend(sets_between(row_id, ahead[row_id], behind[row_id]))
    return told


def sets_between(row_id, cells, others):
    """The list of the sets that lead from the cells of a row to others, as many."""
    told = []
    for column, (before, after) in enumerate(zip(cells, others)):
        if before != after:
            told.append(("set", row_id, column, before, after))
    return told


def is_canonical(changes):
    """Whether a list of changes is canonical."""
    for place, change in enumerate(changes):
        if place > 0 and not comes_ahead(changes[place - 1], change):
            return False
        if change[0] == "set" and change[3] == change[4]:
            return False
    return True


def comes_ahead(change, other):
    """Whether a change can stand right ahead of another one in a canonical list."""
    if change[1] != other[1]:
        return change[1] < other[1]
    return change[0] == "set" and other[0] == "set" and change[2] < other[2]


def apply(rows, changes):
    """The tuple of the rows behind changes, by ascending ids."""
    if not is_canonical(changes) or not have_one_width(rows):
        raise BadFit()
    width = width_of(rows, changes)
    cells_of = {row_id: cells for row_id, cells in rows}
    for change in changes:
        row_id = change[1]
        cells = cells_of.get(row_id, None)
        if change[0] == "insert":
            if cells is not None or len(change[2]) != width:
                raise BadFit()
            cells_of[row_id] = change[2]
        elif change[0] == "remove":
            if cells != change[2]:
                raise BadFit()
            del cells_of[row_id]
        else:
            if cells is None:
                raise BadFit()
            cells_of[row_id] = cells_behind(cells, [change])
    return tuple([(row_id, cells_of[row_id]) for row_id in sorted(cells_of)])


def width_of(rows, changes):
    """How many cells each row has; if there is none, the first one that changes insert tells it."""
    if rows:
        return len(rows[0][1])
    for change in changes:
        if change[0] == "insert":
            return len(change[2])
    return 0


def cells_behind(cells, sets):
    """The cells of a row behind sets, which have to fit them."""
    told = list(cells)
    for _, _, column, before, after in sets:
        if not 0 <= column < len(told) or told[column] != before:
            raise BadFit()
        told[column] = after
    return tuple(told)


def compose(first, second):
    """The canonical list that does what two canonical lists do, one behind the other."""
    if not is_canonical(first) or not is_canonical(second):
        raise BadFit()
    ahead = changes_by_row(first)
    behind = changes_by_row(second)
    told = []
    for row_id in sorted(set(list(ahead) + list(behind))):
        told.extend(composed_row(ahead.get(row_id, []), behind.get(row_id, [])))
    return told


def changes_by_row(changes):
    """A dict from the ids of rows to the lists of their changes."""
    found = {}
    for change in changes:
        found.setdefault(change[1], []).append(change)
    return found


def composed_row(first, second):
    """The list of changes of one row that does what two such lists do, one behind the other."""
    if not first or not second:
        return first + second
    one = first[0]
    other = second[0]
    row_id = one[1]
    words = (one[0], other[0])
    if words == ("insert", "remove") and one[2] == other[2]:
        return []
    if words == ("insert", "set"):
        return [("insert", row_id, cells_behind(one[2], second))]
    if words == ("remove", "insert") and len(one[2]) == len(other[2]):
        return sets_between(row_id, one[2], other[2])
    if words == ("set", "remove"):
        # The removed cells are those behind the sets, so the inverse sets lead back to those ahead.
        return [("remove", row_id, cells_behind(other[2], inverse(first)))]
    if words == ("set", "set"):
        return composed_sets(first, second)
    raise BadFit()


def composed_sets(first, second):
    """The list of sets of one row that does what two such lists do, one behind the other."""
    found = {change[2]: change for change in first}
    for word, row_id, column, before, after in second:
        if column in found:
            if found[column][4] != before:
                raise BadFit()
            before = found[column][3]
        found[column] = (word, row_id, column, before, after)
    together = [found[column] for column in sorted(found)]
    return [change for change in together if change[3] != change[4]]


def inverse(changes):
    """The list that leads back."""
    return [inverse_change(change) for change in changes]


def inverse_change(change):
    """The change that leads back."""
    if change[0] == "set":
        word, row_id, column, before, after = change
        return (word, row_id, column, after, before)
    word, row_id, cells = change
    return ("remove" if word == "insert" else "insert", row_id, cells)
