"""Views: reading, writing and fitting them, and when a condition holds (u1 to u5)."""

from windowtable.errors import BadText
from windowtable.fitting import kinds_by_name
from windowtable.literals import is_literal, is_text_literal, literal_value, value_text
from windowtable.reading import LONGEST_TEXT, read_names, read_order
from windowtable.tokens import Reader, cut, is_number, run_end, token_end
from windowtable.values import compare, has_kind
from windowtable.writing import joined, listed, order_tokens

VIEW_WORDS = ("show", "where", "order", "descending", "first", "is", "none", "not", "and", "or")
SIGNS = ("=", "<", ">")
COMPARED = {"=": 0, "<": -1, ">": 1}
MOST_SHOWN = 6
MOST_ATOMS = 12


class Level:
    """What is read so far of a condition, or of one within round brackets."""

    def __init__(self):
        self.parts = []
        self.atoms = []
        self.nots = 0

    def put_not(self):
        """Takes a not that stands ahead of the next atom."""
        self.nots += 1

    def put(self, atom):
        """Takes an atom, and each not right ahead of it."""
        for _ in range(self.nots):
            atom = ("not", atom)
        self.nots = 0
        self.atoms.append(atom)

    def end_part(self):
        """Goes on to the next part."""
        self.parts.append(shape_of("and", self.atoms))
        self.atoms = []

    def whole(self):
        """The shape of what was read."""
        self.end_part()
        return shape_of("or", self.parts)


def shape_of(word, members):
    """The shape of members between which a word stands; a single one is its own shape."""
    return members[0] if len(members) == 1 else (word, tuple(members))


def view_token_end(text, at):
    """The place behind the token of a view that begins at a place of a text."""
    end = run_end(text, at + 1)
    if text[at] == "-" and is_number(text[at + 1:end]):
        return end
    if is_text_literal(text[at:end + 1]):
        return end + 1
    return token_end(text, at)


def parse_view(text):
    """The view (u2) that a text tells."""
    if len(text) > LONGEST_TEXT:
        raise BadText(0, "text too long")
    reader = Reader(cut(text, view_token_end), VIEW_WORDS)
    view = read_view(reader)
    reader.finish()
    if len(atoms_of(view[1])) > MOST_ATOMS:
        raise BadText(0, "condition too large")
    return view


def read_view(reader):
    """Reads a whole view."""
    reader.expect("show")
    names = read_names(reader, MOST_SHOWN)
    condition = None
    if reader.skip("where"):
        condition = read_condition(reader)
    keys = read_order(reader)
    most = None
    if reader.skip("first"):
        most = reader.take_number(1)
    return (names, condition, keys, most)


def read_condition(reader):
    """Reads a condition."""
    # A text can have more round brackets than calls should lie within each other, so a list has the levels.
    levels = [Level()]
    while True:
        levels = with_opened(levels, reader)
        levels[-1].put(read_plain_atom(reader))
        while len(levels) > 1 and reader.skip(")"):
            inner = levels.pop().whole()
            levels[-1].put(inner)
        if reader.skip("or"):
            levels[-1].end_part()
        elif not reader.skip("and"):
            break
    if len(levels) > 1:
        reader.refuse()
    return levels[0].whole()


def with_opened(levels, reader):
    """Reads what stands ahead of a plain atom: the levels, and a new one for each bracket that opens."""
    told = list(levels)
    while reader.ahead() in ("not", "("):
        if reader.skip("not"):
            told[-1].put_not()
        else:
            reader.expect("(")
            told.append(Level())
    return told


def read_plain_atom(reader):
    """Reads an atom that is an is or a comparison."""
    name = reader.take_name()
    if reader.skip("is"):
        reader.expect("none")
        return ("none", name)
    sign = reader.take_one(SIGNS)
    token = reader.ahead()
    if is_literal(token):
        reader.expect(token)
        return (sign, name, ("value", literal_value(token)))
    return (sign, name, ("name", reader.take_name()))


def view_text(view):
    """The written form of a view."""
    names, condition, keys, most = view
    tokens = listed("show", [[name] for name in names])
    if condition is not None:
        tokens.append("where")
        tokens.extend(condition_tokens(condition))
    tokens.extend(order_tokens(keys))
    if most is not None:
        tokens.extend(["first", str(most)])
    return joined(tokens)


def condition_tokens(condition):
    """The tokens of a condition."""
    word = condition[0]
    if word == "none":
        return [condition[1], "is", "none"]
    if word == "not":
        return ["not"] + inner_tokens(condition[1], word)
    if word in SIGNS:
        told, side = condition[2]
        return [condition[1], word, side if told == "name" else value_text(side)]
    tokens = []
    for part in condition[1]:
        if tokens:
            tokens.append(word)
        tokens.extend(inner_tokens(part, word))
    return tokens


def inner_tokens(condition, around):
    """The tokens of a condition within another one, in round brackets where the word of that one asks for them."""
    tokens = condition_tokens(condition)
    if condition[0] == "or" or (condition[0] == "and" and around != "or"):
        return ["("] + tokens + [")"]
    return tokens


def atoms_of(condition):
    """The list of the atoms is and comparisons of a condition, in the order of the text."""
    if condition is None:
        return []
    if condition[0] == "not":
        return atoms_of(condition[1])
    if condition[0] not in ("and", "or"):
        return [condition]
    found = []
    for part in condition[1]:
        found.extend(atoms_of(part))
    return found


def names_in(view):
    """The list of the names of columns in a view, in the order of the text."""
    names, condition, keys, _ = view
    found = list(names)
    for atom in atoms_of(condition):
        found.append(atom[1])
        if atom[0] in SIGNS and atom[2][0] == "name":
            found.append(atom[2][1])
    found.extend([name for name, _ in keys])
    return found


def fits(view, columns):
    """What keeps a view from fitting columns, the first reason there is; an empty text if it fits."""
    kinds = kinds_by_name(columns)
    for name in names_in(view):
        if name not in kinds:
            return f"unknown column {name}"
    for atom in atoms_of(view[1]):
        if atom[0] in SIGNS and not are_alike(atom[2], kinds[atom[1]], kinds):
            return f"kinds of {atom[1]}"
    return ""


def are_alike(side, kind, kinds):
    """Whether the other side of a comparison is of a kind, kinds being those of columns by their names."""
    told, thing = side
    return kinds[thing] == kind if told == "name" else has_kind(thing, kind)


def holds(condition, columns, cells):
    """Whether a condition holds for the cells of a row."""
    if condition is None:
        return True
    return holds_for(condition, {name: value for (name, _), value in zip(columns, cells)})


def holds_for(condition, values):
    """Whether a condition holds for values, which are told by the names of their columns."""
    word = condition[0]
    if word == "or":
        return any(holds_for(part, values) for part in condition[1])
    if word == "and":
        return all(holds_for(part, values) for part in condition[1])
    if word == "not":
        return not holds_for(condition[1], values)
    value = values[condition[1]]
    if word == "none":
        return value is None
    told, side = condition[2]
    other = values[side] if told == "name" else side
    if value is None or other is None:
        return False
    return compare(value, other) == COMPARED[word]
