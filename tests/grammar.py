"""The language of definitions written down once more, apart from the program, to hold the program against it.

An expression is the name of a token or a kind of token, ("seq", expressions), ("or", expressions), or ("rule", a name
of RULES), where a language has an expression that stands within itself.
A row of tokens is followed by derivatives: behind a token there stands the expression for all that can still come.
An expression for which nothing can come any more is NEVER: then no definition goes on with that token.
"""

import re
from functools import lru_cache

WORDS = (
    "over partition order descending rows range groups to without start current end before after group ties "
    "number rank dense tile lag lead first last nth size count different sum least greatest median"
).split()
FUNCTIONS = WORDS[WORDS.index("number"):]
UNITS = ("rows", "range", "groups")
EXCLUSIONS = ("current", "group", "ties")

EMPTY = ("seq", ())
NEVER = ("or", ())
RULES = {}
# Kinds of tokens of other languages: functions that tell whether a token is of the kind.
KINDS = {}


def seq(*parts):
    return ("seq", parts)


def one_of(*parts):
    return ("or", parts)


def maybe(*parts):
    return one_of(seq(*parts), EMPTY)


def up_to_three(part):
    return seq(part, maybe(",", part, maybe(",", part)))


FUNCTION = one_of(
    "number", "rank", "dense", "size", seq("tile", "COUNT"),
    seq(one_of("lag", "lead"), "NAME", "NUMBER"), seq("nth", "NAME", "COUNT"),
    seq(one_of("count", "different", "sum", "least", "greatest", "median", "first", "last"), "NAME"),
)
BOUND = one_of("start", "current", "end", seq("NUMBER", one_of("before", "after")))
FRAME = seq(one_of(*UNITS), BOUND, "to", BOUND, maybe("without", one_of(*EXCLUSIONS)))
DEFINITION = seq(
    "NAME", "=", FUNCTION, "over", "(",
    maybe("partition", up_to_three("NAME")),
    maybe("order", up_to_three(seq("NAME", maybe("descending")))),
    maybe(FRAME), ")",
)


def is_name(token):
    return re.fullmatch("[a-z][a-z0-9]{0,7}", token) is not None and token not in WORDS


def token_fits(kind, token):
    if kind == "NAME":
        return is_name(token)
    if kind == "NUMBER":
        return re.fullmatch("0|[1-9][0-9]{0,3}", token) is not None
    if kind == "COUNT":
        return re.fullmatch("[1-9][0-9]{0,3}", token) is not None
    if kind in KINDS:
        return KINDS[kind](token)
    return kind == token


@lru_cache(maxsize=None)
def can_end(expression):
    if isinstance(expression, str):
        return False
    kind, parts = expression
    if kind == "rule":
        return can_end(RULES[parts])
    if kind == "seq":
        return all(can_end(part) for part in parts)
    return any(can_end(part) for part in parts)


@lru_cache(maxsize=None)
def behind(expression, token):
    """What can come behind a token with which the expression begins."""
    if isinstance(expression, str):
        return EMPTY if token_fits(expression, token) else NEVER
    kind, parts = expression
    if kind == "rule":
        return behind(RULES[parts], token)
    found = []
    for at, part in enumerate(parts):
        rest = behind(part, token)
        if rest != NEVER:
            # What is empty is left out, so that expressions do not grow along a text.
            ahead = () if rest == EMPTY else rest[1] if rest[0] == "seq" else (rest,)
            found.append(("seq", (*ahead, *parts[at + 1:])) if kind == "seq" else rest)
        if kind == "seq" and not can_end(part):
            break
    return found[0] if len(found) == 1 else ("or", tuple(found))


def tokens_of(text):
    return re.findall("[a-z0-9]+|[^ \n]", text)


def refusal(text):
    """The pair of number and reason with which a text is refused; None for a definition."""
    return refusal_of(text, tokens_of(text), DEFINITION)


def refusal_of(text, tokens, expression):
    """The same for the text of another language with these tokens."""
    if len(text) > 200:
        return (0, "text too long")
    for number, token in enumerate(tokens, 1):
        expression = behind(expression, token)
        if expression == NEVER:
            return (number, "unexpected token")
    if can_end(expression):
        return None
    return (len(tokens) + 1, "unexpected end")


def text_of(definition):
    """A text of a definition, with spaces between all tokens and its frame written out."""
    name, function, column, number, partition, order, frame = definition
    parts = [name, "=", function]
    parts += [str(part) for part in (column, number) if part is not None]
    parts += ["over", "("]
    if partition:
        parts += ["partition", " , ".join(partition)]
    if order:
        parts += ["order", " , ".join(key + (" descending" if down else "") for key, down in order)]
    parts += [frame[0], bound_text(frame[1]), "to", bound_text(frame[2])]
    if frame[3] != "nothing":
        parts += ["without", frame[3]]
    return " ".join([*parts, ")"])


def bound_text(bound):
    return " ".join(str(part) for part in reversed(bound))
