"""Values, base values, their kinds and their order (c2, c3, v1)."""

LEAST_BASE = -9999
GREATEST_BASE = 9999
LONGEST_BASE = 6


def is_letters(text):
    """Whether a string has no character but letters a to z; the empty one has none."""
    return all("a" <= letter <= "z" for letter in text)


def is_integer(thing):
    """Whether a thing is an integer that can be a value."""
    # Python counts True and False among the integers, the document does not.
    return isinstance(thing, int) and not isinstance(thing, bool)


def is_text(thing):
    """Whether a thing is a text that can be a value."""
    return isinstance(thing, str) and is_letters(thing)


def is_value(thing):
    """Whether a thing is nothing, an integer or a text."""
    return thing is None or is_integer(thing) or is_text(thing)


def is_base(thing):
    """Whether a thing is a value that can stand in a base column."""
    if is_integer(thing):
        return LEAST_BASE <= thing <= GREATEST_BASE
    if is_text(thing):
        return len(thing) <= LONGEST_BASE
    return thing is None


def has_kind(value, kind):
    """Whether a value can stand in a column of a kind, "integer" or "text"."""
    if value is None:
        return True
    if kind == "integer":
        return is_integer(value)
    return is_text(value)


def key_of(value):
    """A tuple by which values are sorted."""
    # The number in front keeps integers and texts from being compared with each other.
    if value is None:
        return (0,)
    if is_integer(value):
        return (1, value)
    return (2, value)


def compare(one, other):
    """-1 if one value comes ahead of the other, 0 if they are the same, 1 if it comes behind."""
    first = key_of(one)
    second = key_of(other)
    if first == second:
        return 0
    return -1 if first < second else 1
