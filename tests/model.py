"""What the document says of order, frames, functions and columns (o1, o2, f1 to f5, g1, k1), row by row and as slow as
it is told.

It is written apart from the program, to hold the program against it. Rows are pairs (id, cells) everywhere.
"""

import functools


def compare(one, other):
    """c3."""
    def rank(value):
        return 0 if value is None else 1 if isinstance(value, int) else 2
    if rank(one) != rank(other):
        return -1 if rank(one) < rank(other) else 1
    if one == other:
        return 0
    return -1 if one < other else 1


def compare_rows(one, other, keys):
    for column, descending in keys:
        told = compare(one[1][column], other[1][column])
        if told:
            return -told if descending else told
    return -1 if one[0] < other[0] else 1


def order(rows, keys):
    return sorted(rows, key=functools.cmp_to_key(lambda one, other: compare_rows(one, other, keys)))


def are_peers(one, other, keys):
    return all(compare(one[1][column], other[1][column]) == 0 for column, _ in keys)


def partition(rows, numbers, row):
    return [other for other in rows if all(compare(other[1][n], row[1][n]) == 0 for n in numbers)]


def group_of(line, keys, place):
    """The number of the group of the row at a place: how many rows ahead of it are no peers of the one ahead of them."""
    return sum(1 for at in range(1, place + 1) if not are_peers(line[at - 1], line[at], keys))


def interval(line, keys, frame, place):
    """The first place and the end as f2 and f3 tell them; line is the partition in order."""
    unit, first, last, _ = frame
    many = len(line)
    if unit == "rows":
        return (count_from(first, place, many), count_to(last, place, many))
    if unit == "groups":
        numbers = [group_of(line, keys, at) for at in range(many)]
        starts = [numbers.index(number) for number in range(numbers[-1] + 1)] + [many]
        here, groups = numbers[place], numbers[-1] + 1
        return (starts[count_from(first, here, groups)], starts[count_to(last, here, groups)])
    return (range_from(line, keys, first, place), range_to(line, keys, last, place))


def count_from(bound, i, m):
    return {"start": lambda: 0, "before": lambda: max(i - bound[1], 0), "current": lambda: i,
            "after": lambda: min(i + bound[1], m), "end": lambda: m}[bound[0]]()


def count_to(bound, i, m):
    return {"start": lambda: 0, "before": lambda: max(i - bound[1] + 1, 0), "current": lambda: i + 1,
            "after": lambda: min(i + bound[1] + 1, m), "end": lambda: m}[bound[0]]()


def reach_of(keys, bound, k):
    descending = keys[0][1]
    return k + bound[1] if (bound[0] == "after") != descending else k - bound[1]


def range_from(line, keys, bound, place):
    if bound[0] in ("start", "end"):
        return 0 if bound[0] == "start" else len(line)
    column = keys[0][0] if keys else None
    if bound[0] == "current" or line[place][1][column] is None:
        return min(at for at, other in enumerate(line) if are_peers(other, line[place], keys))
    reach = reach_of(keys, bound, line[place][1][column])
    descending = keys[0][1]
    whole = [at for at, other in enumerate(line) if other[1][column] is not None]
    for at in whole:
        k = line[at][1][column]
        if not (k > reach if descending else k < reach):
            return at
    return whole[-1] + 1


def range_to(line, keys, bound, place):
    if bound[0] in ("start", "end"):
        return 0 if bound[0] == "start" else len(line)
    column = keys[0][0] if keys else None
    if bound[0] == "current" or line[place][1][column] is None:
        return max(at for at, other in enumerate(line) if are_peers(other, line[place], keys)) + 1
    reach = reach_of(keys, bound, line[place][1][column])
    descending = keys[0][1]
    whole = [at for at, other in enumerate(line) if other[1][column] is not None]
    for at in reversed(whole):
        k = line[at][1][column]
        if not (k < reach if descending else k > reach):
            return at + 1
    return whole[0]


def frame(line, keys, told, place):
    """The tuple of the places in the frame of the row at a place."""
    first, end = interval(line, keys, told, place)
    inside = []
    for at in range(first, end):
        peer = are_peers(line[at], line[place], keys)
        out = {"nothing": False, "current": at == place, "group": peer, "ties": peer and at != place}[told[3]]
        if not out:
            inside.append(at)
    return tuple(inside)


def value(rows, keys, definition, column, row_id):
    """The value of a definition for a row; rows are its partition (g1)."""
    line = order(rows, keys)
    m = len(line)
    i = [row[0] for row in line].index(row_id)
    function, n, told = definition[1], definition[3], definition[6]
    if function == "number":
        return i + 1
    if function == "rank":
        return 1 + min(at for at in range(m) if are_peers(line[at], line[i], keys))
    if function == "dense":
        return 1 + group_of(line, keys, i)
    if function == "tile":
        q, r = m // n, m % n
        return i // (q + 1) + 1 if i < r * (q + 1) else r + (i - r * (q + 1)) // q + 1
    if function in ("lag", "lead"):
        at = i - n if function == "lag" else i + n
        return line[at][1][column] if at in range(m) else None
    inside = [line[at] for at in frame(line, keys, told, i)]
    if function == "nth":
        return inside[n - 1][1][column] if len(inside) >= n else None
    return of_values(function, [None if column is None else cells[column] for _, cells in inside])


def of_values(function, values):
    """The value of a function for the values of a frame in order."""
    if function == "size":
        return len(values)
    if function in ("first", "last"):
        return None if not values else values[0] if function == "first" else values[-1]
    there = [worth for worth in values if worth is not None]
    if function == "count":
        return len(there)
    if function == "different":
        return sum(1 for at, worth in enumerate(there) if worth not in there[:at])
    if not there:
        return None
    if function == "sum":
        total = 0
        for worth in there:
            total += worth
        return total
    ascending = sorted(there, key=functools.cmp_to_key(compare))
    return {"least": ascending[0], "greatest": ascending[-1], "median": ascending[(len(there) - 1) // 2]}[function]


def column(definition, columns, rows):
    """The dict of the values of a definition for rows with the cells of all columns (k1)."""
    names = [name for name, _ in columns]
    keys = tuple((names.index(name), descending) for name, descending in definition[5])
    numbers = [names.index(name) for name in definition[4]]
    number = None if definition[2] is None else names.index(definition[2])
    return {row[0]: value(partition(rows, numbers, row), keys, definition, number, row[0]) for row in rows}
