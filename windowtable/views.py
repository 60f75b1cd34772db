"""What views show, moves between what they show, and screens (u6 to u8)."""

from windowtable.conditions import fits, holds, parse_view
from windowtable.errors import BadArgument, BadFit
from windowtable.fitting import keys_by_number, numbers_by_name
from windowtable.ordering import cells_at, ordered_rows


def shown(view, columns, rows):
    """The tuple of the pairs (id, cells) that a view shows of rows, in order."""
    names, condition, order, most = view
    numbers = numbers_by_name(columns)
    found = [
        (row_id, cells_at(cells, [numbers[name] for name in names]))
        for row_id, cells in ordered_rows(rows, keys_by_number(order, numbers))
        if holds(condition, columns, cells)
    ]
    return tuple(found if most is None else found[:most])


def moves(first, second):
    """The list of the moves between two rows of pairs (id, cells)."""
    told, line = outs(first, {row_id: True for row_id, _ in second})
    cells_of = {row_id: cells for row_id, cells in first}
    for place, (row_id, cells) in enumerate(second):
        if row_id not in cells_of:
            told.append(("in", place, row_id, cells))
            line.insert(place, row_id)
            continue
        here = line.index(row_id)
        if here != place:
            told.append(("go", here, place))
            line.insert(place, line.pop(here))
        if cells_of[row_id] != cells:
            told.append(("cells", place, cells))
    return told


def outs(first, staying):
    """The list of the moves that take out the pairs that do not stay, and the list of the ids of those that do."""
    told = []
    line = [row_id for row_id, _ in first]
    for place in reversed(range(len(first))):
        if line[place] not in staying:
            told.append(("out", place))
            line.pop(place)
    return (told, line)


def moved_by(first, moves):
    """The row of pairs behind moves."""
    line = list(first)
    for move in moves:
        line = behind_move(line, move)
    return tuple(line)


def behind_move(line, move):
    """The list of pairs behind one move."""
    word, place = move[0], move[1]
    if word == "in":
        return with_pair(line, place, (move[2], move[3]))
    if not 0 <= place < len(line):
        raise BadFit()
    row_id = line[place][0]
    rest = line[:place] + line[place + 1:]
    if word == "out":
        return rest
    if word == "cells":
        return with_pair(rest, place, (row_id, move[2]))
    return with_pair(rest, move[2], line[place])


def with_pair(line, place, pair):
    """The list of pairs with another one put in so that it stands at a place."""
    if not 0 <= place <= len(line) or pair[0] in [row_id for row_id, _ in line]:
        raise BadFit()
    return line[:place] + [pair] + line[place:]


class Screen:
    """Shows a view of a table, and tells how what it shows moves."""

    def __init__(self, table, text):
        view = parse_view(text)
        reason = fits(view, table.columns())
        if reason:
            raise BadArgument(reason)
        self._table = table
        self._view = view
        self._last = ()

    def tell(self):
        """The list of the moves from what it told last to what the view shows now."""
        ahead = self._last
        self._last = shown(self._view, self._table.columns(), self._table.rows())
        return moves(ahead, self._last)

    def last(self):
        """What it told last: the tuple of the pairs (id, cells) to which its moves led."""
        return self._last
