"""What the document says of reach, tables and journals (r1 to d5, j1), as slow as it is told.

It is written apart from the program, to hold the program against it. Rows are tuples of pairs (id, cells) everywhere.
"""

import model

MOST_ROWS = 16
MOST_VERSIONS = 30


def full_rows(columns, definitions, rows):
    """Rows with all their cells, from rows with base cells (k1)."""
    known = list(columns)
    told = tuple(sorted(rows))
    for definition in definitions:
        values = model.column(definition, known, told)
        told = tuple((row_id, cells + (values[row_id],)) for row_id, cells in told)
        known.append((definition[0], None))
    return told


def changes(rows, others):
    """The canonical list between rows (h2)."""
    ahead, behind = dict(rows), dict(others)
    told = []
    for row_id in range(1, max([0, *ahead, *behind]) + 1):
        one, other = ahead.get(row_id), behind.get(row_id)
        if one is not None and other is None:
            told.append(("remove", row_id, one))
        elif one is None and other is not None:
            told.append(("insert", row_id, other))
        elif one != other:
            told += [("set", row_id, at, one[at], other[at]) for at in range(len(one)) if one[at] != other[at]]
    return told


def looked_at(definition, names):
    """The numbers of the columns that a definition looks at (r1)."""
    wanted = {*definition[4], *(name for name, _ in definition[5]), definition[2]}
    return tuple(number for number, name in enumerate(names) if name in wanted)


def touched_ids(definition, names, rows, others):
    """The set of the ids of the rows behind that are in touched partitions (r1)."""
    ahead, behind = dict(rows), dict(others)
    looked = looked_at(definition, names)
    numbers = [names.index(name) for name in definition[4]]
    moved = [
        row_id for row_id in {*ahead, *behind}
        if row_id not in ahead or row_id not in behind or any(ahead[row_id][n] != behind[row_id][n] for n in looked)
    ]
    places = [[cells[n] for n in numbers] for row_id in moved for cells in (ahead.get(row_id), behind.get(row_id)) if cells]
    return {row_id for row_id, cells in others if [cells[n] for n in numbers] in places}


def counts(columns, definitions, rows, others):
    """How many rows are worked out anew for each definition, between rows with all their cells (r2)."""
    told = []
    for number, definition in enumerate(definitions):
        names = [name for name, _ in columns] + [other[0] for other in definitions[:number]]
        told.append(len(touched_ids(definition, names, rows, others)))
    return tuple(told)


def kind_fits(value, kind):
    if value is None:
        return True
    if isinstance(value, int):
        return kind == "integer" and -9999 <= value <= 9999
    return kind == "text" and len(value) <= 6 and all(letter in "abcdefghijklmnopqrstuvwxyz" for letter in value)


def written(value):
    return "none" if value is None else str(value) if isinstance(value, int) else "'" + value + "'"


def written_deed(deed):
    if deed[0] == "insert":
        return "insert " + ", ".join(written(value) for value in deed[1])
    if deed[0] == "set":
        return "set " + str(deed[1]) + " " + deed[2] + " " + written(deed[3])
    return "remove " + str(deed[1])


class ModelTable:
    def __init__(self, columns, definitions):
        self.columns, self.definitions = columns, definitions
        self.versions = [((), 1)]
        self.at = 0
        self.worked = tuple(0 for _ in definitions)
        self.journal = ""

    def base(self):
        return self.versions[self.at][0]

    def rows(self):
        return full_rows(self.columns, self.definitions, self.base())

    def reason(self, deed, base):
        """Why a deed is refused, or None."""
        kinds = dict(self.columns)
        if deed[0] == "insert":
            right = len(deed[1]) == len(kinds) and all(map(kind_fits, deed[1], kinds.values()))
            return "cells" if not right else "too many rows" if len(base) == MOST_ROWS else None
        if deed[1] not in base:
            return f"no row {deed[1]}"
        if deed[0] == "remove" or (deed[2] in kinds and kind_fits(deed[3], kinds[deed[2]])):
            return None
        if deed[2] in kinds:
            return "kind of " + deed[2]
        return ("computed" if deed[2] in [name for name, *_ in self.definitions] else "no") + " column " + deed[2]

    def do(self, deeds):
        """A list of changes, or the reason why the deeds are refused."""
        if self.at == MOST_VERSIONS - 1:
            return "too many versions"
        if not deeds:
            return "nothing to do"
        base, next_id = dict(self.base()), self.versions[self.at][1]
        for deed in deeds:
            reason = self.reason(deed, base)
            if reason is not None:
                return reason
            if deed[0] == "insert":
                base[next_id] = tuple(deed[1])
                next_id += 1
            elif deed[0] == "set":
                cells = list(base[deed[1]])
                cells[[name for name, _ in self.columns].index(deed[2])] = deed[3]
                base[deed[1]] = tuple(cells)
            else:
                base.pop(deed[1])
        del self.versions[self.at + 1:]
        self.versions.append((tuple(sorted(base.items())), next_id))
        self.journal += "do " + "; ".join(written_deed(deed) for deed in deeds) + "\n"
        return self.go(self.at + 1)

    def back(self):
        self.journal += "back\n"
        return self.go(self.at - 1)

    def forth(self):
        self.journal += "forth\n"
        return self.go(self.at + 1)

    def go(self, version):
        if version not in range(len(self.versions)):
            self.worked = tuple(0 for _ in self.definitions)
            return None
        ahead = self.rows()
        self.at = version
        self.worked = counts(self.columns, self.definitions, ahead, self.rows())
        return changes(ahead, self.rows())


def random_deed(random, columns, ids):
    """A deed that is most often right."""
    kinds = dict(columns)

    def value(kind):
        if random.random() < 0.15:
            return None
        return random.choice((-1, 0, 1, 2, 3, 5)) if kind == "integer" else random.choice(("", "a", "b", "ab"))

    word = random.choice(("insert", "insert", "set", "set", "set", "remove"))
    if word == "insert" or not ids:
        return ("insert", tuple(value(kind) for kind in kinds.values()))
    row_id = random.choice(ids)
    if word == "remove":
        return ("remove", row_id)
    name = random.choice(list(kinds))
    return ("set", row_id, name, value(kinds[name]))


def random_deeds(random, columns, ids):
    return tuple(random_deed(random, columns, ids) for _ in range(random.choice((1, 1, 1, 2, 3, 5))))
