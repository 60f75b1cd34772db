"""Values of functions: of a frame's values, and for the rows of a partition (g1)."""

from windowtable.errors import BadArgument
from windowtable.fitting import OVER_INTEGERS
from windowtable.frames import frame_places
from windowtable.ordering import group_numbers, ordered
from windowtable.values import is_text, key_of

AGGREGATES = ("size", "count", "different", "sum", "least", "greatest", "median", "first", "last")
BY_PLACE = ("number", "rank", "dense", "tile", "lag", "lead")


def refuse_function(function):
    """Refuses what is no function of the values of a frame alone."""
    if function not in AGGREGATES:
        raise BadArgument("function")


def refuse_texts(function, values):
    """Refuses a text among the values if the function is one over integers alone."""
    if function in OVER_INTEGERS and any(is_text(value) for value in values):
        raise BadArgument("text")


def aggregate(function, values):
    """The value of a function for the values of a frame, in order."""
    refuse_function(function)
    refuse_texts(function, values)
    there = [value for value in values if value is not None]
    return told_value(function, values, sorted(there, key=key_of))


def told_value(function, values, ascending):
    """The value of a function for values in order, those of them that are not None being told ascending, too."""
    if function == "size":
        return len(values)
    if function == "count":
        return len(ascending)
    if function == "different":
        return len(set(ascending))
    if function == "first":
        return values[0] if values else None
    if function == "last":
        return values[-1] if values else None
    if not ascending:
        return None
    if function == "sum":
        return sum(ascending)
    if function == "least":
        return ascending[0]
    if function == "greatest":
        return ascending[-1]
    return ascending[(len(ascending) - 1) // 2]


def tiles(size, count):
    """The list of the tiles of the places of a partition of so many rows."""
    least, rest = divmod(size, count)
    told = []
    for tile in range(1, count + 1):
        told.extend([tile] * (least + 1 if tile <= rest else least))
    return told


def window_value(rows, keys, definition, column, row_id):
    """The value of a definition for a row of a partition; column is the number of its column or None."""
    return partition_values(rows, keys, definition, column)[row_id]


def partition_values(rows, keys, definition, column):
    """A dict from the ids of the rows of a partition, in order, to the values of a definition for them."""
    function, number, frame = definition[1], definition[3], definition[6]
    order = ordered(rows, keys)
    given = values_in(rows, order, column)
    # These do not look at the frame, so it does not even have to be right.
    if function in BY_PLACE:
        told = place_values(function, number, given, group_numbers(rows, keys))
    else:
        told = frame_values(function, number, given, frame_places(rows, keys, frame))
    return dict(zip(order, told))


def values_in(rows, order, column):
    """The list of the values in a column, in order; None for each row if there is no column."""
    if column is None:
        return [None for _ in order]
    cells_of = {row_id: cells for row_id, cells in rows}
    return [cells_of[row_id][column] for row_id in order]


def place_values(function, number, given, numbers):
    """The list of the values of a function that goes by places, given being those in its column, in order."""
    many = len(numbers)
    if function == "number":
        return [place + 1 for place in range(many)]
    if function == "rank":
        return [numbers.index(group) + 1 for group in numbers]
    if function == "dense":
        return [group + 1 for group in numbers]
    if function == "tile":
        return tiles(many, number)
    distance = number if function == "lead" else -number
    return [given[place + distance] if 0 <= place + distance < many else None for place in range(many)]


def frame_values(function, number, given, frames):
    """The list of the values of a function for frames, which are tuples of places, given being those in its column."""
    told = []
    for places in frames:
        values = [given[place] for place in places]
        told.append(nth(values, number) if function == "nth" else aggregate(function, values))
    return told


def nth(values, number):
    """The value with a number, from 1; None if there is none."""
    return values[number - 1] if number <= len(values) else None
