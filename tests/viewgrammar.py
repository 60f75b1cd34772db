"""The language of views written down once more, apart from the program (u1 to u3), and conditions at random."""

import re

import grammar
from grammar import maybe, one_of, refusal_of, seq

VIEW_WORDS = "show where order descending first is none not and or".split()
SIGNS = ("=", "<", ">")
TOKEN = re.compile("'[a-z]{0,6}'|-(?:0|[1-9][0-9]{0,3})(?![a-z0-9])|[a-z0-9]+|[^ \n]")


def is_view_name(token):
    return grammar.is_name(token) and token not in VIEW_WORDS


def is_worth(token):
    """A number, also a negative one, or a text."""
    return re.fullmatch("0|-?[1-9][0-9]{0,3}|'[a-z]{0,6}'", token) is not None


def up_to(many, part):
    return part if many == 1 else seq(part, maybe(",", up_to(many - 1, part)))


def rule(name):
    return ("rule", name)


grammar.KINDS.update({"VIEWNAME": is_view_name, "WORTH": is_worth})
grammar.RULES.update({
    "condition": seq(rule("part"), rule("parts")),
    "parts": maybe("or", rule("part"), rule("parts")),
    "part": seq(rule("atom"), rule("atoms")),
    "atoms": maybe("and", rule("atom"), rule("atoms")),
    "atom": one_of(seq("not", rule("atom")), seq("(", rule("condition"), ")"), seq("VIEWNAME", "is", "none"),
                   seq("VIEWNAME", one_of(*SIGNS), one_of("WORTH", "VIEWNAME"))),
})
VIEW = seq(
    "show", up_to(6, "VIEWNAME"), maybe("where", rule("condition")),
    maybe("order", up_to(3, seq("VIEWNAME", maybe("descending")))), maybe("first", "COUNT"),
)


def view_tokens(text):
    return TOKEN.findall(text)


def view_refusal(text):
    """The pair of number and reason with which a text is refused; None for a view."""
    tokens = view_tokens(text)
    told = refusal_of(text, tokens, VIEW)
    if told is None and sum(1 for token in tokens if token in ("is", *SIGNS)) > 12:
        return (0, "condition too large")
    return told


def random_atom(dice, names):
    name = dice.choice(names)
    sign = dice.choice(("none", *SIGNS))
    if sign == "none":
        return ("none", name)
    side = dice.choice((("name", dice.choice(names)), ("value", dice.choice((0, 7, -1, -9999, 9999, 10))),
                        ("value", dice.choice(("", "a", "abcdef", "show")))))
    return (sign, name, side)


def random_condition(dice, names, many):
    """A condition with so many atoms."""
    if dice.random() < 0.25:
        return ("not", random_condition(dice, names, many))
    if many == 1:
        return random_atom(dice, names)
    parts = []
    while many:
        # At least two parts.
        size = dice.randrange(1, many + 1) if parts else dice.randrange(1, many)
        parts.append(random_condition(dice, names, size))
        many -= size
    return (dice.choice(("and", "or")), tuple(parts))


def atom_text(atom):
    if atom[0] == "none":
        return f"{atom[1]} is none"
    kind, side = atom[2]
    return f"{atom[1]} {atom[0]} " + (f"'{side}'" if kind == "value" and isinstance(side, str) else str(side))


def written(condition, around=""):
    """The written form of a condition that stands within one of a word."""
    word = condition[0]
    if word == "not":
        return "not " + written(condition[1], "not")
    if word not in ("and", "or"):
        return atom_text(condition)
    text = f" {word} ".join(written(part, word) for part in condition[1])
    bare = {"and": ("", "or"), "or": ("",)}[word]
    return text if around in bare else "(" + text + ")"


def loose(dice, condition, around=""):
    """A text of a condition with more round brackets than it needs, some that change nothing."""
    word = condition[0]
    if word == "not":
        text = "not " + loose(dice, condition[1], "not")
    elif word in ("and", "or"):
        text = f" {word} ".join(loose(dice, part, word) for part in condition[1])
        if around not in {"and": ("", "or"), "or": ("",)}[word]:
            text = "(" + text + ")"
    else:
        text = atom_text(condition)
    while dice.random() < 0.15:
        text = "(" + text + ")"
    return text


def loose_spaces(dice, text):
    """A text of the same tokens with other spaces and newlines between them."""
    told = dice.choice(("", " ", "\n"))
    tokens = view_tokens(text)
    for token, other in zip(tokens, [*tokens[1:], ""]):
        runs = token[-1].isalnum() and other[:1].isalnum()
        told += token + (dice.choice((" ", "\n", "  ")) if runs else dice.choice(("", "", " ", "\n")))
    return told
