"""Frames of the rows of a partition (f1 to f5)."""

from windowtable.errors import BadFrame
from windowtable.ordering import group_numbers, groups, ordered
from windowtable.values import is_text


def has_distance(bound):
    """Whether a bound lies at a distance from the row."""
    return bound[0] in ("before", "after")


def is_right(frame, keys, kinds):
    """Whether a frame is right for keys (f4), kinds being those of all columns."""
    return is_right_over(frame, [kinds[column] == "text" for column, _ in keys])


def is_right_over(frame, texts):
    """Whether a frame is right for keys, of each of which it is told whether its column is one of texts."""
    unit, first, last, _ = frame
    if first[0] == "end" or last[0] == "start":
        return False
    if unit != "range" or not (has_distance(first) or has_distance(last)):
        return True
    return texts == [False]


def has_text(rows, column):
    """Whether some row has a text in a column."""
    return any(is_text(cells[column]) for _, cells in rows)


def intervals(rows, keys, frame):
    """The list of the pairs (first place, end) of each row of a partition in order, ahead of exclusions."""
    if not is_right_over(frame, [has_text(rows, column) for column, _ in keys]):
        raise BadFrame()
    blocks = blocks_of(rows, keys, frame[0])
    starts = first_places(blocks)
    told = []
    for block, (first, end) in zip(blocks, block_pairs(rows, keys, frame, blocks)):
        start = starts[first]
        told.extend([(start, max(start, starts[end])) for _ in block])
    return told


def blocks_of(rows, keys, unit):
    """The list of the tuples of ids, in order, that a unit does not part: each row, or each group of peers."""
    if unit == "rows":
        return [(row_id,) for row_id in ordered(rows, keys)]
    return groups(rows, keys)


def first_places(blocks):
    """The list of the first place of each block, and behind them the number of rows."""
    places = [0]
    for block in blocks:
        places.append(places[-1] + len(block))
    return places


def block_pairs(rows, keys, frame, blocks):
    """The list of the pairs of the first block and the block at the end, for the rows of each block."""
    unit, first, last, _ = frame
    if unit != "range":
        return [counted_pair(first, last, here, len(blocks)) for here in range(len(blocks))]
    steps = []
    # Only a frame with a distance is sure to have just one key.
    if has_distance(first) or has_distance(last):
        steps = steps_of(rows, keys[0], blocks)
    return [
        (range_bound(first, here, 0, len(blocks), steps), range_bound(last, here, 1, len(blocks), steps))
        for here in range(len(blocks))
    ]


def counted_pair(first, last, here, many):
    """The first block and the block at the end for the rows of a block, distances counting in blocks (f2)."""
    # As a to, each bound that goes by the row lies one block farther than as a from.
    return (counted(first, here, many), counted(last, here + 1, many))


def counted(bound, here, many):
    """The block of a bound that is seen from a block, of so many."""
    word = bound[0]
    if word == "start":
        return 0
    if word == "before":
        return max(0, here - bound[1])
    if word == "current":
        return here
    if word == "after":
        return min(many, here + bound[1])
    return many


def steps_of(rows, key, blocks):
    """For each group of peers the integer by which it stands in order, ascending; None for the one with nothing."""
    column, descending = key
    cells_of = {row_id: cells for row_id, cells in rows}
    found = [cells_of[block[0]][column] for block in blocks]
    if descending:
        return [None if value is None else -value for value in found]
    return found


def range_bound(bound, here, farther, many, steps):
    """The group of a bound that counts in values (f3); farther is 0 for a from, 1 for a to."""
    if not has_distance(bound):
        return counted(bound, here + farther, many)
    step = steps[here]
    if step is None:
        return here + farther
    reach = step - bound[1] if bound[0] == "before" else step + bound[1]
    # A from leaves out the integers ahead of the reach, a to takes in the reach itself, too.
    ahead = [other for other in steps if other is not None and other < reach + farther]
    nothing_first = 1 if steps[0] is None else 0
    return nothing_first + len(ahead)


def frame_places(rows, keys, frame):
    """The list of the tuples of the places in the frame of each row of a partition in order."""
    numbers = group_numbers(rows, keys)
    told = []
    for place, (start, end) in enumerate(intervals(rows, keys, frame)):
        inside = [other for other in range(start, end) if not is_excluded(frame[3], numbers, place, other)]
        told.append(tuple(inside))
    return told


def is_excluded(exclusion, numbers, place, other):
    """Whether the row at the other place is left out of the frame of the row at a place (f5)."""
    if exclusion == "nothing":
        return False
    if exclusion == "current":
        return other == place
    if exclusion == "ties" and other == place:
        return False
    return numbers[other] == numbers[place]
