"""Journals of tables: their writing, and tables made again from them (j1)."""

from windowtable.deeds import written_deeds
from windowtable.errors import BadDeed, BadJournal
from windowtable.literals import is_literal, literal_value
from windowtable.table import Table
from windowtable.tokens import is_digits

# No id has more digits, and Python does not read any number of them.
LONGEST_ID = 18


def deeds_text(deeds):
    """The text of deeds that stands behind `do `."""
    return written_deeds(deeds)


def replay(columns, definitions, text):
    """The table of a journal, or of a beginning of one."""
    table = Table(columns, definitions)
    lines = text.split("\n")
    # What stands behind the last newline is no whole line.
    for place, line in enumerate(lines[:-1], start=1):
        if not was_done(table, line):
            raise BadJournal(place)
    return table


def was_done(table, line):
    """Does again what a line tells; tells whether that could be done."""
    if line == "back":
        table.back()
        return True
    if line == "forth":
        table.forth()
        return True
    if not line.startswith("do "):
        return False
    deeds = [read_deed(part) for part in line[3:].split("; ")]
    if None in deeds:
        return False
    try:
        table.do(tuple(deeds))
    except BadDeed:
        return False
    return True


def read_deed(text):
    """The deed of which a text is the one writing; None if it is none of a deed."""
    word, _, rest = text.partition(" ")
    if word == "insert":
        return read_insert(rest.split(", "))
    tokens = rest.split(" ")
    if not is_id(tokens[0]):
        return None
    row_id = int(tokens[0])
    if word == "remove" and len(tokens) == 1:
        return ("remove", row_id)
    if word == "set" and len(tokens) == 3 and is_written_value(tokens[2]):
        return ("set", row_id, tokens[1], read_value(tokens[2]))
    return None


def read_insert(tokens):
    """The deed that inserts the values of which tokens are the texts; None if one is none of a value."""
    if not all(is_written_value(token) for token in tokens):
        return None
    return ("insert", tuple([read_value(token) for token in tokens]))


def is_id(token):
    """Whether a token is the writing of an id."""
    return 1 <= len(token) <= LONGEST_ID and is_digits(token) and not token.startswith("0")


def is_written_value(token):
    """Whether a token is the writing of a value."""
    return token == "none" or is_literal(token)


def read_value(token):
    """The value of which a token is the writing."""
    return None if token == "none" else literal_value(token)
