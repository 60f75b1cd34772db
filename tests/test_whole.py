"""The whole program: the examples of the document, and what goes over several modules."""

import doctest
import importlib
import inspect
import pathlib
import random
import unittest

import table_model
from windowtable.changes import apply, between, compose, inverse
from windowtable.columns import evaluate
from windowtable.conditions import parse_view
from windowtable.errors import BadDeed
from windowtable.followers import Copy, Watcher
from windowtable.journal import deeds_text, replay
from windowtable.merging import clashes, merged, turned
from windowtable.papers import change_paper, check_change
from windowtable.reading import parse_definition
from windowtable.table import Table
from windowtable.views import Screen, moved_by, shown

COLUMNS = (("who", "text"), ("day", "integer"), ("paid", "integer"))
TEXTS = (
    "recent = sum paid over (partition who order day range 2 before to current)",
    "place = rank over (order recent descending)",
    "ahead = lag who 1 over (order place, day)",
    "near = count ahead over (partition ahead order day groups 1 before to 1 after without current)",
)
VIEW = "show who, recent, ahead where not recent is none or near > 0 order place, day descending first 5"
INTERFACE = {
    "errors": "TableError BadText BadDefinition BadFrame BadFit BadDeed BadPaper BadJournal BadArgument",
    "values": "is_value is_base has_kind compare key_of",
    "reading": "parse_definition",
    "writing": "definition_text",
    "fitting": "fit kind_of all_columns parts",
    "ordering": "partitions ordered groups",
    "frames": "is_right intervals frame_places",
    "functions": "aggregate tiles window_value",
    "sliding": "Window slide",
    "columns": "column_of evaluate",
    "changes": "between apply compose inverse is_canonical",
    "reach": "looks_at touched renew",
    "table": "Table",
    "papers": "cell_paper check_cell change_paper check_change",
    "followers": "Copy Watcher",
    "conditions": "parse_view view_text fits holds",
    "views": "shown moves moved_by Screen",
    "merging": "clashes turned merged",
    "journal": "deeds_text replay",
}


class ExamplesTest(unittest.TestCase):
    def test_examples_of_the_document(self):
        path = pathlib.Path(__file__).resolve().parent / "examples.txt"
        told = doctest.testfile(str(path), module_relative=False, encoding="utf-8", optionflags=doctest.IGNORE_EXCEPTION_DETAIL)
        self.assertEqual((told.attempted, told.failed), (50, 0))


class InterfaceTest(unittest.TestCase):
    def test_each_name_is_defined_in_its_file(self):
        for file, names in INTERFACE.items():
            module = importlib.import_module("windowtable." + file)
            for name in names.split():
                with self.subTest(file=file, name=name):
                    thing = getattr(module, name)
                    self.assertEqual(thing.__module__, "windowtable." + file)
                    self.assertTrue(inspect.isfunction(thing) or inspect.isclass(thing))


class OneTableTest(unittest.TestCase):
    """A table that does many things, with all that follows it."""

    def doing(self, dice, table):
        """Does something to a table: the list that is told, or None."""
        word = dice.choice(("do", "do", "do", "back", "forth"))
        if word != "do":
            return getattr(table, word)()
        try:
            return table.do(table_model.random_deeds(dice, COLUMNS, [row_id for row_id, _ in table.rows()]))
        except BadDeed:
            return None

    def test_all_followers(self):
        definitions = tuple(parse_definition(text) for text in TEXTS)
        view = parse_view(VIEW)
        for seed in range(10):
            dice = random.Random(seed)
            table = Table(COLUMNS, TEXTS)
            copy, watcher, screen = Copy(()), Watcher(table, ("near", "who")), Screen(table, VIEW)
            together, watched, shows = [], (), ()
            for _ in range(25):
                ahead = table.rows()
                told = self.doing(dice, table)
                if told is None:
                    self.assertEqual(table.rows(), ahead)
                    continue
                copy.follow(told)
                self.assertEqual(copy.rows(), table.rows())
                together = compose(together, told)
                self.assertEqual(together, table.since(0))
                self.assertEqual(apply((), together), table.rows())
                watched = apply(watched, watcher.tell())
                self.assertEqual(watched, tuple((i, (cells[6], cells[0])) for i, cells in table.rows()))
                shows = moved_by(shows, screen.tell())
                self.assertEqual(shows, shown(view, table.columns(), table.rows()))
                self.assertEqual(shows, screen.last())
                changes, papers = change_paper(COLUMNS, definitions, ahead, table.rows())
                self.assertEqual(changes, told)
                self.assertIsNone(check_change(COLUMNS, definitions, ahead, table.rows(), told, papers))
                base = tuple((i, cells[:3]) for i, cells in table.rows())
                self.assertEqual(evaluate(COLUMNS, definitions, base), table.rows())
            again = replay(COLUMNS, table.definitions(), table.journal())
            self.assertEqual((again.rows(), again.journal(), again.version(), again.worked()),
                             (table.rows(), table.journal(), table.version(), table.worked()))
            self.assertEqual(compose(together, inverse(together)), [])

    def test_each_line_of_a_journal_is_the_text_of_its_deeds(self):
        dice = random.Random(5)
        table = Table(COLUMNS, TEXTS)
        lines = []
        for _ in range(20):
            deeds = table_model.random_deeds(dice, COLUMNS, [row_id for row_id, _ in table.rows()])
            try:
                table.do(deeds)
            except BadDeed:
                continue
            lines.append("do " + deeds_text(deeds) + "\n")
        self.assertEqual(table.journal(), "".join(lines))

    def test_merged_versions(self):
        # Two ways on from one version, in base cells, and then worked out again.
        definitions = tuple(parse_definition(text) for text in TEXTS)
        for seed in range(40):
            dice = random.Random(seed)
            table = Table(COLUMNS, ())
            for _ in range(6):
                self.doing(dice, table)
            # A list of changes that leads from there, for each side.
            rows, version, lists = table.rows(), table.version(), []
            for _ in "lr":
                for _ in range(3):
                    try:
                        table.do(table_model.random_deeds(dice, COLUMNS, [row_id for row_id, _ in table.rows()]))
                    except BadDeed:
                        continue
                lists.append(table.since(version))
                while table.version() > version:
                    table.back()
            left, right = lists
            for side in ("left", "right"):
                one = Copy(rows)
                one.follow(left)
                one.follow(turned(right, left, rows, side, "right"))
                other = Copy(rows)
                other.follow(right)
                other.follow(turned(left, right, rows, side, "left"))
                self.assertEqual(one.rows(), other.rows())
                self.assertEqual(merged(rows, left, right, side), one.rows())
                full = evaluate(COLUMNS, definitions, one.rows())
                self.assertEqual(apply(evaluate(COLUMNS, definitions, rows),
                                       between(evaluate(COLUMNS, definitions, rows), full)), full)
            if not clashes(left, right):
                self.assertEqual(merged(rows, left, right, "left"), merged(rows, left, right, "right"))

    def test_tables_have_nothing_in_common(self):
        one, other = Table(COLUMNS, TEXTS), Table(COLUMNS, TEXTS)
        one.do((("insert", ("ann", 1, 1)),))
        self.assertEqual((other.rows(), other.versions(), other.journal(), other.next_id()), ((), 1, "", 1))


if __name__ == "__main__":
    unittest.main()
