"""How values are written in views and in journals (u1, j1)."""

from windowtable.tokens import is_number
from windowtable.values import is_base, is_integer

MARK = "'"


def value_text(value):
    """The text of a value."""
    if value is None:
        return "none"
    if is_integer(value):
        return str(value)
    return MARK + value + MARK


def is_integer_literal(token):
    """Whether a token is the text of an integer, which may be negative."""
    if token.startswith("-"):
        return token != "-0" and is_number(token[1:])
    return is_number(token)


def is_text_literal(token):
    """Whether a token is a text between two marks."""
    if len(token) < 2 or not token.startswith(MARK) or not token.endswith(MARK):
        return False
    return is_base(token[1:-1])


def is_literal(token):
    """Whether a token is the text of an integer or of a text."""
    return is_integer_literal(token) or is_text_literal(token)


def literal_value(token):
    """The integer or text of which a token is the text."""
    if is_text_literal(token):
        return token[1:-1]
    return int(token)
