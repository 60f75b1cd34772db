"""What follows a table: copies led by lists of changes, and watchers of columns (w1, w2)."""

from windowtable.changes import apply, between
from windowtable.errors import BadArgument
from windowtable.fitting import numbers_by_name
from windowtable.ordering import by_ids, cells_at


class Copy:
    """Rows that are led by lists of changes alone."""

    def __init__(self, rows):
        self._rows = tuple(by_ids(rows))

    def follow(self, changes):
        """Applies a list of changes."""
        self._rows = apply(self._rows, changes)

    def rows(self):
        """The rows by ascending ids."""
        return self._rows


class Watcher:
    """Tells the changes of some columns of a table."""

    def __init__(self, table, names):
        numbers = numbers_by_name(table.columns())
        if any(name not in numbers for name in names) or len(set(names)) < len(names):
            raise BadArgument("column")
        self._table = table
        self._numbers = tuple([numbers[name] for name in names])
        self._seen = self._now()

    def tell(self):
        """The list of the changes since it was asked last."""
        ahead = self._seen
        self._seen = self._now()
        return between(ahead, self._seen)

    def _now(self):
        """The present rows with the cells of its columns alone."""
        return tuple([(row_id, cells_at(cells, self._numbers)) for row_id, cells in self._table.rows()])
