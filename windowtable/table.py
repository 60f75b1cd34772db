"""The table: deeds, versions, and what can be asked (d1 to d5)."""

from windowtable.changes import between
from windowtable.deeds import done, written_deeds
from windowtable.errors import BadArgument, BadDeed
from windowtable.fitting import all_columns, numbers_by_name, parts
from windowtable.frames import frame_places
from windowtable.ordering import ordered, partition_of
from windowtable.reach import renew
from windowtable.reading import parse_definition
from windowtable.writing import definition_text

MOST_VERSIONS = 30


def shapes_of(columns, texts):
    """The tuple of the definitions that texts tell, each of which has to fit the columns ahead of it."""
    shapes = ()
    for text in texts:
        shapes += (parse_definition(text),)
        # Each one is fitted before the next text is read, since the first fault of all is told.
        all_columns(columns, shapes)
    return shapes


class Table:
    """Rows that change, with computed columns, and the versions of them."""

    def __init__(self, columns, definitions):
        self._base = tuple(columns)
        self._shapes = shapes_of(self._base, definitions)
        self._known = all_columns(self._base, self._shapes)
        # The rows with all cells and the next number of each version.
        self._states = [((), 1)]
        self._present = 0
        self._counts = self._zeros()
        self._lines = []

    def do(self, deeds):
        """Does deeds at once, and tells the list of changes."""
        if self._present + 1 >= MOST_VERSIONS:
            raise BadDeed("too many versions")
        if not deeds:
            raise BadDeed("nothing to do")
        ahead = self.rows()
        base, next_id = done(deeds, self._base, self._known, self._base_rows(ahead), self.next_id())
        rows, self._counts = renew(self._base, self._shapes, ahead, base)
        self._present += 1
        self._states = self._states[:self._present] + [(rows, next_id)]
        self._lines.append(f"do {written_deeds(deeds)}\n")
        return between(ahead, rows)

    def back(self):
        """Makes the version ahead the present one, and tells the list of changes; None if there is none."""
        self._lines.append("back\n")
        return self._go_to(self._present - 1)

    def forth(self):
        """Makes the version behind the present one, and tells the list of changes; None if there is none."""
        self._lines.append("forth\n")
        return self._go_to(self._present + 1)

    def worked(self):
        """How many rows the last do, back or forth worked out anew for each definition."""
        return self._counts

    def rows(self):
        """The rows with all their cells, by ascending ids."""
        return self._states[self._present][0]

    def columns(self):
        """All columns, the base ones first."""
        return self._known

    def definitions(self):
        """The written forms of the definitions."""
        return tuple([definition_text(shape) for shape in self._shapes])

    def version(self):
        """The number of the present version."""
        return self._present

    def versions(self):
        """How many versions there are."""
        return len(self._states)

    def next_id(self):
        """The number that the next row gets as its id."""
        return self._states[self._present][1]

    def since(self, version):
        """The list of changes from the rows of a version to the present ones."""
        if not self._has_version(version):
            raise BadArgument("version")
        return between(self._states[version][0], self.rows())

    def frame(self, row_id, name):
        """The list of the ids of the rows in the frame of a row, in order."""
        order, frames = self._frames(row_id, name)
        return [order[place] for place in frames[order.index(row_id)]]

    def dependents(self, row_id, name):
        """The ascending list of the ids of the rows in whose frames a row is."""
        order, frames = self._frames(row_id, name)
        place = order.index(row_id)
        return sorted([other for other, inside in zip(order, frames) if place in inside])

    def journal(self):
        """The text of all that was done, a line for each doing."""
        return "".join(self._lines)

    def _zeros(self):
        """A count of 0 for each definition."""
        return tuple([0 for _ in self._shapes])

    def _base_rows(self, rows):
        """Rows with their base cells alone."""
        return tuple([(row_id, cells[:len(self._base)]) for row_id, cells in rows])

    def _has_version(self, version):
        """Whether there is a version with this number."""
        return 0 <= version < len(self._states)

    def _go_to(self, version):
        """Makes a version the present one, and tells the list of changes; None if there is no such version."""
        if not self._has_version(version):
            self._counts = self._zeros()
            return None
        ahead = self.rows()
        base = self._base_rows(self._states[version][0])
        rows, self._counts = renew(self._base, self._shapes, ahead, base)
        self._present = version
        return between(ahead, rows)

    def _frames(self, row_id, name):
        """The ids of the partition of a row, in order, and the places in the frame of each of them."""
        if row_id not in [other for other, _ in self.rows()]:
            raise BadArgument("row")
        number = numbers_by_name(self._known).get(name, -1) - len(self._base)
        if number < 0:
            raise BadArgument("column")
        shape = self._shapes[number]
        numbers, keys, _ = parts(shape, self._known)
        members = partition_of(self.rows(), numbers, row_id)
        return (ordered(members, keys), frame_places(members, keys, shape[6]))
