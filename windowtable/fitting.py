"""How definitions fit columns, and the columns that they make (t5, t6)."""

from windowtable.errors import BadDefinition
from windowtable.frames import is_right

OVER_INTEGERS = ("sum", "median")
OF_ITS_COLUMN = ("lag", "lead", "first", "last", "nth", "least", "greatest")


def kinds_by_name(columns):
    """A dict from the names of columns to their kinds."""
    return {name: kind for name, kind in columns}


def numbers_by_name(columns):
    """A dict from the names of columns to their numbers."""
    return {name: number for number, (name, _) in enumerate(columns)}


def names_used(definition):
    """The list of the names of columns behind the =, in the order of the text."""
    column, partition, order = definition[2], definition[4], definition[5]
    names = [] if column is None else [column]
    names.extend(partition)
    names.extend([name for name, _ in order])
    return names


def fit(definition, columns):
    """What keeps a definition from fitting columns, the first reason there is; an empty text if it fits."""
    name, function, column = definition[0], definition[1], definition[2]
    kinds = kinds_by_name(columns)
    if name in kinds:
        return f"duplicate column {name}"
    for used in names_used(definition):
        if used not in kinds:
            return f"unknown column {used}"
    if function in OVER_INTEGERS and kinds[column] == "text":
        return f"kind of {column}"
    _, keys, _ = parts(definition, columns)
    if not is_right(definition[6], keys, tuple([kind for _, kind in columns])):
        return "frame"
    return ""


def kind_of(definition, columns):
    """The kind of the column of a definition that fits columns."""
    function, column = definition[1], definition[2]
    if function in OF_ITS_COLUMN:
        return kinds_by_name(columns)[column]
    return "integer"


def all_columns(columns, definitions):
    """The tuple of the base columns and of those of definitions, each of which has to fit those ahead of it."""
    told = tuple(columns)
    for number, definition in enumerate(definitions):
        reason = fit(definition, told)
        if reason:
            raise BadDefinition(number, reason)
        told += ((definition[0], kind_of(definition, told)),)
    return told


def parts(definition, columns):
    """The numbers of the columns of a partition, its keys by numbers, and the number of its column or None."""
    column, partition, order = definition[2], definition[4], definition[5]
    numbers = numbers_by_name(columns)
    keys = keys_by_number(order, numbers)
    return (tuple([numbers[name] for name in partition]), keys, None if column is None else numbers[column])


def keys_by_number(order, numbers):
    """The keys (c6) of an order that tells them by names, numbers being a dict from names."""
    return tuple([(numbers[name], descending) for name, descending in order])
