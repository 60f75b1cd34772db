"""Reading of definitions from their texts (t1 to t3)."""

from windowtable.errors import BadText
from windowtable.tokens import FUNCTION_WORDS, Reader, is_number, split_tokens

LONGEST_TEXT = 200
MOST_NAMES = 3
WITHOUT_COLUMN = ("number", "rank", "dense", "size", "tile")
WITH_COUNT = ("tile", "nth")
WITH_DISTANCE = ("lag", "lead")
UNITS = ("rows", "range", "groups")
BARE_BOUNDS = ("start", "current", "end")
SIDES = ("before", "after")
EXCLUSIONS = ("current", "group", "ties")
USUAL_FRAME = ("range", ("start",), ("current",), "nothing")


def parse_definition(text):
    """The definition (c8) that a text tells."""
    if len(text) > LONGEST_TEXT:
        raise BadText(0, "text too long")
    reader = Reader(split_tokens(text))
    definition = read_definition(reader)
    reader.finish()
    return definition


def read_definition(reader):
    """Reads a whole definition."""
    name = reader.take_name()
    reader.expect("=")
    function, column, number = read_function(reader)
    reader.expect("over")
    reader.expect("(")
    partition = read_partition(reader)
    order = read_order(reader)
    frame = read_frame(reader)
    reader.expect(")")
    return (name, function, column, number, partition, order, frame)


def read_function(reader):
    """Reads a function: the triple of it, its column or None, and its number or None."""
    function = reader.take_one(FUNCTION_WORDS)
    column = None
    number = None
    if function not in WITHOUT_COLUMN:
        column = reader.take_name()
    if function in WITH_COUNT:
        number = reader.take_number(1)
    elif function in WITH_DISTANCE:
        number = reader.take_number(0)
    return (function, column, number)


def read_partition(reader):
    """Reads the names of a partition, if one is written."""
    if not reader.skip("partition"):
        return ()
    return read_names(reader, MOST_NAMES)


def read_names(reader, most):
    """Reads names with commas between them, so many at the most."""
    names = [reader.take_name()]
    # A comma behind the last possible name is left for the caller, where it fits nowhere.
    while len(names) < most and reader.skip(","):
        names.append(reader.take_name())
    return tuple(names)


def read_order(reader):
    """Reads the keys of an order, if one is written."""
    if not reader.skip("order"):
        return ()
    keys = [read_key(reader)]
    while len(keys) < MOST_NAMES and reader.skip(","):
        keys.append(read_key(reader))
    return tuple(keys)


def read_key(reader):
    """Reads a key: the pair of its name and whether it is descending."""
    name = reader.take_name()
    return (name, reader.skip("descending"))


def read_frame(reader):
    """Reads a frame; the usual one if none is written."""
    if reader.ahead() not in UNITS:
        return USUAL_FRAME
    unit = reader.take_one(UNITS)
    first = read_bound(reader)
    reader.expect("to")
    last = read_bound(reader)
    exclusion = "nothing"
    if reader.skip("without"):
        exclusion = reader.take_one(EXCLUSIONS)
    return (unit, first, last, exclusion)


def read_bound(reader):
    """Reads a bound of a frame."""
    if not is_number(reader.ahead()):
        return (reader.take_one(BARE_BOUNDS),)
    distance = reader.take_number(0)
    return (reader.take_one(SIDES), distance)
