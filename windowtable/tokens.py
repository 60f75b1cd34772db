"""Names, words and numbers (c1), and how a text is cut into tokens and read token by token (t1, t3)."""

from windowtable.errors import BadText
from windowtable.values import is_letters

GRAMMAR_WORDS = (
    "over", "partition", "order", "descending", "rows", "range", "groups", "to",
    "without", "start", "current", "end", "before", "after", "group", "ties",
)
FUNCTION_WORDS = (
    "number", "rank", "dense", "tile", "lag", "lead", "first", "last",
    "nth", "size", "count", "different", "sum", "least", "greatest", "median",
)
BLANKS = " \n"
LONGEST_NAME = 8
LONGEST_NUMBER = 4


def is_digits(text):
    """Whether a string has no character but digits; the empty one has none."""
    return all("0" <= digit <= "9" for digit in text)


def is_run(text):
    """Whether a string has no character but letters a to z and digits."""
    return all(is_letters(sign) or is_digits(sign) for sign in text)


def is_word(token):
    """Whether a token has a meaning of its own in the language, and so is no name."""
    return token in GRAMMAR_WORDS or token in FUNCTION_WORDS


def is_name(token):
    """Whether a token is a name."""
    if not 1 <= len(token) <= LONGEST_NAME:
        return False
    return is_letters(token[0]) and is_run(token) and not is_word(token)


def is_number(token):
    """Whether a token is a number, from 0 to 9,999."""
    if not 1 <= len(token) <= LONGEST_NUMBER or not is_digits(token):
        return False
    return token == "0" or token[0] != "0"


def run_end(text, at):
    """The place behind the run of letters a to z and digits that begins at a place of a text."""
    end = at
    while end < len(text) and is_run(text[end]):
        end += 1
    return end


def token_end(text, at):
    """The place behind the token that begins at a place of a text: a run, or a character by itself."""
    return max(at + 1, run_end(text, at))


def cut(text, end_of):
    """The list of the tokens of a text; end_of tells where the one that begins at a place ends."""
    tokens = []
    at = 0
    while at < len(text):
        end = end_of(text, at)
        if text[at] not in BLANKS:
            tokens.append(text[at:end])
        at = end
    return tokens


def split_tokens(text):
    """The list of the tokens of a text; one that fits nowhere stands there as it is."""
    return cut(text, token_end)


class Reader:
    """Passes tokens one by one, and refuses the first one that does not fit."""

    def __init__(self, tokens, barred=()):
        self.tokens = tokens
        # Words of another language than that of definitions, which are no names there, either.
        self.barred = barred
        self.at = 0

    def ahead(self):
        """The token that is next, or "" behind the last one."""
        if self.at < len(self.tokens):
            return self.tokens[self.at]
        return ""

    def refuse(self):
        """Refuses the token that is next, or the end."""
        if self.at < len(self.tokens):
            raise BadText(self.at + 1, "unexpected token")
        raise BadText(self.at + 1, "unexpected end")

    def skip(self, token):
        """Passes the next token if it is this one; tells whether it was."""
        if self.ahead() != token:
            return False
        self.at += 1
        return True

    def expect(self, token):
        """Passes the next token, which must be this one."""
        if not self.skip(token):
            self.refuse()

    def take_one(self, choices):
        """Passes the next token, which must be one of the choices, and returns it."""
        token = self.ahead()
        if token not in choices:
            self.refuse()
        self.at += 1
        return token

    def take_name(self):
        """Passes the next token, which must be a name, and returns it."""
        token = self.ahead()
        if not is_name(token) or token in self.barred:
            self.refuse()
        self.at += 1
        return token

    def take_number(self, least):
        """Passes the next token, which must be a number of at least so much, and returns it as an integer."""
        token = self.ahead()
        if not is_number(token) or int(token) < least:
            self.refuse()
        self.at += 1
        return int(token)

    def finish(self):
        """Refuses the next token if there is one."""
        if self.at < len(self.tokens):
            self.refuse()
