"""Written forms of definitions (t4)."""

from windowtable.reading import USUAL_FRAME


def definition_text(definition):
    """The written form of a definition."""
    name, function, column, number, partition, order, frame = definition
    tokens = [name, "=", function]
    if column is not None:
        tokens.append(column)
    if number is not None:
        tokens.append(str(number))
    tokens.extend(["over", "("])
    tokens.extend(partition_tokens(partition))
    tokens.extend(order_tokens(order))
    tokens.extend(frame_tokens(frame))
    tokens.append(")")
    return joined(tokens)


def partition_tokens(partition):
    """The tokens of a partition; none if there is no name in it."""
    return listed("partition", [[name] for name in partition])


def order_tokens(order):
    """The tokens of an order; none if there is no key in it."""
    return listed("order", [[name, "descending"] if descending else [name] for name, descending in order])


def listed(word, members):
    """A word, and behind it the tokens of its members with commas between them; nothing if there are none."""
    tokens = []
    for member in members:
        tokens.append("," if tokens else word)
        tokens.extend(member)
    return tokens


def frame_tokens(frame):
    """The tokens of a frame; none for the usual one."""
    if frame == USUAL_FRAME:
        return []
    unit, first, last, exclusion = frame
    tokens = [unit] + bound_tokens(first) + ["to"] + bound_tokens(last)
    if exclusion != "nothing":
        tokens.extend(["without", exclusion])
    return tokens


def bound_tokens(bound):
    """The tokens of a bound; a distance is written ahead of its word."""
    if len(bound) == 1:
        return [bound[0]]
    return [str(bound[1]), bound[0]]


def joined(tokens):
    """The text of tokens with single spaces, none of them behind "(", ahead of ")" and ahead of a comma."""
    text = ""
    for token in tokens:
        if text and not text.endswith("(") and token not in (")", ","):
            text += " "
        text += token
    return text
