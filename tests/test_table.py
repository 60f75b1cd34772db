"""The table: columns, versions, lists, frames and dependents (d1 to d5)."""

import copy
import inspect
import random
import unittest

import model
import table_model
from windowtable.changes import apply, between, compose, inverse, is_canonical
from windowtable.columns import evaluate
from windowtable.errors import BadArgument, BadDeed, BadDefinition, BadText
from windowtable.reading import parse_definition
from windowtable.table import Table

COLUMNS = (("who", "text"), ("day", "integer"), ("paid", "integer"))
TEXTS = ("total = sum paid over (partition who order day)", "place = rank over (order total descending)")
ANN, BOB, LATE = ("insert", ("ann", 1, 10)), ("insert", ("bob", 1, 7)), ("insert", ("ann", 4, 5))
# Tables for long rows of doings; together they have each function.
TABLES = (
    (COLUMNS, TEXTS),
    ((("x", "integer"),), ()),
    ((("x", "integer"), ("y", "text")), ("a = number over (partition y order x descending)", "b = dense over (order a)",
                                         "c = lag y 1 over (order b, x)", "d = count c over (partition b)")),
    ((("x", "integer"), ("y", "text"), ("z", "integer"), ("u", "text")), (
        "a = median x over (order z range 1 before to 1 after)", "b = tile 3 over (partition u order a)",
        "c = nth y 2 over (partition b order x groups 1 before to end without ties)",
        "d = different c over (order b rows 2 before to current without current)")),
    ((("x", "integer"), ("y", "text")), (
        "a = lead x 1 over (order x)", "b = first y over (order a descending range current to 2 after)",
        "c = last a over (partition y order a rows 1 before to 1 after)",
        "d = greatest b over (partition y, b groups start to end without group)")),
    ((("x", "integer"),), (
        "a = size over (order x range 1 before to 1 after without current)", "b = least a over (partition x)")),
)


class TableTestCase(unittest.TestCase):
    def refused(self, error, fields, action, *arguments):
        with self.subTest(arguments=arguments):
            with self.assertRaises(error) as caught:
                action(*arguments)
            self.assertIs(type(caught.exception), error)
            self.assertEqual(vars(caught.exception), fields)

    def table(self):
        """Versions 1 to 3 have one row more each."""
        table = Table(COLUMNS, TEXTS)
        for deed in (ANN, BOB, LATE):
            table.do((deed,))
        return table


class MadeTest(TableTestCase):
    def test_at_first(self):
        table = Table(COLUMNS, TEXTS)
        self.assertEqual((table.rows(), table.version(), table.versions(), table.next_id()), ((), 0, 1, 1))
        self.assertEqual((table.worked(), table.journal(), table.since(0)), ((0, 0), "", []))
        self.assertEqual(Table(COLUMNS, ()).worked(), ())

    def test_columns_and_definitions(self):
        table = Table(COLUMNS, ("a=lag who 1 over(order day)", " b = rank\nover ( partition a ,who ) "))
        self.assertEqual(table.columns(), (*COLUMNS, ("a", "text"), ("b", "integer")))
        self.assertEqual(table.definitions(), ("a = lag who 1 over (order day)", "b = rank over (partition a, who)"))
        self.assertEqual((type(table.columns()), type(table.definitions())), (tuple, tuple))
        self.assertEqual(Table(COLUMNS, ()).columns(), COLUMNS)
        self.assertEqual(Table(COLUMNS, ()).definitions(), ())

    def test_bad_texts(self):
        self.refused(BadText, {"token": 3, "reason": "unexpected token"}, Table, COLUMNS, ("t = over ()",))
        self.refused(BadText, {"token": 1, "reason": "unexpected end"}, Table, COLUMNS, (*TEXTS, ""))
        self.refused(BadText, {"token": 0, "reason": "text too long"}, Table, COLUMNS, (" " * 201,))

    def test_bad_definitions(self):
        for texts, number, reason in (
            (("t = sum gone over ()",), 0, "unknown column gone"),
            ((*TEXTS, "day = size over ()"), 2, "duplicate column day"),
            ((*TEXTS, "total = size over ()"), 2, "duplicate column total"),
            ((TEXTS[1], TEXTS[0]), 0, "unknown column total"),
            ((TEXTS[0], "t = median who over ()"), 1, "kind of who"),
            ((*TEXTS, "t = size over (order who range 1 before to current)", "u = size over (gone)"), 2, "frame"),
        ):
            self.refused(BadDefinition, {"number": number, "reason": reason}, Table, COLUMNS, texts)

    def test_definition_by_definition(self):
        wrong_fit, wrong_text = "t = sum gone over ()", "t = sum over ()"
        self.refused(BadDefinition, {"number": 0, "reason": "unknown column gone"}, Table, COLUMNS, (wrong_fit, wrong_text))
        self.refused(BadText, {"token": 4, "reason": "unexpected token"}, Table, COLUMNS, (wrong_text, wrong_fit))
        self.refused(BadDefinition, {"number": 1, "reason": "unknown column gone"}, Table, COLUMNS,
                     (TEXTS[0], wrong_fit, wrong_text))
        self.refused(BadText, {"token": 4, "reason": "unexpected token"}, Table, COLUMNS, (TEXTS[0], wrong_text, wrong_fit))


class VersionsTest(TableTestCase):
    def test_examples_of_the_document(self):
        table = Table(COLUMNS, TEXTS)
        self.assertEqual(table.do((ANN,)), [("insert", 1, ("ann", 1, 10, 10, 1))])
        self.assertEqual(table.worked(), (1, 1))
        self.assertEqual(table.do((BOB,)), [("insert", 2, ("bob", 1, 7, 7, 2))])
        self.assertEqual(table.worked(), (1, 2))
        self.assertEqual(table.do((LATE,)), [("set", 1, 4, 1, 2), ("set", 2, 4, 2, 3), ("insert", 3, ("ann", 4, 5, 15, 1))])
        self.assertEqual((table.worked(), table.frame(3, "total")), ((2, 3), [1, 3]))
        self.assertEqual(table.back(), [("set", 1, 4, 2, 1), ("set", 2, 4, 3, 2), ("remove", 3, ("ann", 4, 5, 15, 1))])
        self.assertEqual(table.version(), 2)
        self.assertEqual(table.since(0), [("insert", 1, ("ann", 1, 10, 10, 1)), ("insert", 2, ("bob", 1, 7, 7, 2))])
        recent = Table(COLUMNS, ("recent = sum paid over (partition who order day range 2 before to current)",))
        self.assertEqual(recent.do((ANN, BOB, LATE)), [
            ("insert", 1, ("ann", 1, 10, 10)), ("insert", 2, ("bob", 1, 7, 7)), ("insert", 3, ("ann", 4, 5, 5))])
        self.assertEqual((recent.do((("set", 1, "day", 3),)), recent.worked(), recent.back()), (
            [("set", 1, 1, 1, 3), ("set", 3, 3, 5, 15)], (2,), [("set", 1, 1, 3, 1), ("set", 3, 3, 15, 5)]))

    def test_back_and_forth(self):
        table = self.table()
        states = []
        while table.version():
            states.append((table.version(), table.rows(), table.next_id()))
            told = table.back()
            self.assertEqual(told, between(states[-1][1], table.rows()))
            self.assertEqual(table.versions(), 4)
        self.assertEqual((table.rows(), table.next_id()), ((), 1))
        for state in states[::-1]:
            ahead = table.rows()
            self.assertEqual(table.forth(), between(ahead, state[1]))
            self.assertEqual((table.version(), table.rows(), table.next_id()), state)

    def test_worked_of_back_and_forth(self):
        table = self.table()
        table.back()
        self.assertEqual(table.worked(), (1, 2))
        table.back()
        self.assertEqual(table.worked(), (0, 1))
        table.back()
        self.assertEqual(table.worked(), (0, 0))
        table.forth()
        self.assertEqual(table.worked(), (1, 1))
        table.forth()
        self.assertEqual(table.worked(), (1, 2))
        table.forth()
        self.assertEqual(table.worked(), (2, 3))
        self.assertIs(type(table.worked()), tuple)

    def test_at_both_ends(self):
        table = self.table()
        rows = table.rows()
        self.assertEqual(table.worked(), (2, 3))
        self.assertIsNone(table.forth())
        self.assertEqual((table.rows(), table.version(), table.versions(), table.next_id()), (rows, 3, 4, 4))
        self.assertEqual(table.worked(), (0, 0))
        for _ in range(3):
            table.back()
        table.forth()
        table.back()
        self.assertEqual(table.worked(), (0, 0))
        table.forth()
        self.assertEqual(table.worked(), (1, 1))
        table.back()
        self.assertIsNone(table.back())
        self.assertEqual((table.rows(), table.version(), table.versions(), table.next_id()), ((), 0, 4, 1))
        self.assertEqual(table.worked(), (0, 0))
        empty = Table(COLUMNS, ())
        self.assertEqual((empty.back(), empty.forth(), empty.worked(), empty.versions()), (None, None, (), 1))

    def test_a_refused_doing_leaves_what_worked_tells(self):
        table = self.table()
        for deeds in ((), (("remove", 9),), (("insert", ()),)):
            with self.assertRaises(BadDeed):
                table.do(deeds)
            self.assertEqual(table.worked(), (2, 3))

    def test_a_doing_drops_the_versions_behind(self):
        table = self.table()
        table.back()
        table.back()
        self.assertEqual((table.version(), table.versions(), table.next_id()), (1, 4, 2))
        # The number 2 is given a second time.
        self.assertEqual(table.do((("insert", ("cid", 2, 1)),)), [("insert", 2, ("cid", 2, 1, 1, 2))])
        self.assertEqual((table.version(), table.versions(), table.next_id()), (2, 3, 3))
        self.assertIsNone(table.forth())
        self.assertEqual(table.rows(), ((1, ("ann", 1, 10, 10, 1)), (2, ("cid", 2, 1, 1, 2))))
        self.refused(BadArgument, {"reason": "version"}, table.since, 3)
        table.back()
        table.back()
        self.assertEqual(table.do((("insert", ("dan", 0, 0)),)), [("insert", 1, ("dan", 0, 0, 0, 1))])
        self.assertEqual((table.versions(), table.next_id()), (2, 2))

    def test_the_next_number_is_part_of_a_version(self):
        table = Table(COLUMNS, ())
        table.do((ANN, BOB, ("remove", 1), ("remove", 2)))
        self.assertEqual((table.rows(), table.next_id()), ((), 3))
        table.back()
        self.assertEqual(table.next_id(), 1)
        table.forth()
        self.assertEqual(table.do((ANN,)), [("insert", 3, ("ann", 1, 10))])

    def test_since(self):
        table = self.table()
        rows_of = []
        for _ in range(4):
            rows_of.insert(0, table.rows())
            table.back()
        for _ in range(4):
            for version, rows in enumerate(rows_of):
                told = table.since(version)
                self.assertEqual(told, table_model.changes(rows, table.rows()))
                self.assertIs(type(told), list)
                self.assertEqual(apply(rows, told), table.rows())
            self.assertEqual(table.since(table.version()), [])
            self.assertTrue(table.since(3 - table.version()))
            for version in (-1, 4, 5, -4, 30, 10 ** 9):
                self.refused(BadArgument, {"reason": "version"}, table.since, version)
            table.forth()

    def test_what_is_told_is_new_each_time(self):
        table = self.table()
        for action in (lambda: table.since(0), lambda: table.frame(1, "total"), lambda: table.dependents(1, "total"),
                       table.back, table.forth):
            action().append("more")
            self.assertNotIn("more", action() or [])
        told = table.do((("remove", 3),))
        wanted = list(told)
        told.append("more")
        table.back()
        self.assertEqual(table.forth(), wanted)


class FramesTest(TableTestCase):
    HEADS = ("number", "rank", "dense", "size", "tile 2", "lag x 1", "lead x 1", "nth x 2", "count x", "different x",
             "sum x", "least x", "greatest x", "median x", "first x", "last x")
    INSIDES = (
        "", "order x", "partition y order x descending", "order x rows 1 before to 1 after without current",
        "order x groups current to 1 after without ties", "order x range 1 before to current without group",
        "partition y rows 2 after to end", "order x, y descending range start to current",
        "order x descending range 2 after to 4 after",
    )
    COLUMNS = (("x", "integer"), ("y", "text"))
    CELLS = ((2, "a"), (1, "a"), (2, "b"), (None, "b"), (5, None), (1, "a"), (3, "b"))

    def table_of(self, text):
        table = Table(self.COLUMNS, ("z = size over ()", text))
        table.do(tuple(("insert", cells) for cells in self.CELLS))
        table.do((("remove", 3), ("insert", (3, "a"))))
        return table

    def test_against_the_model(self):
        for head in self.HEADS:
            for inside in self.INSIDES:
                definition = parse_definition(f"t = {head} over ({inside})")
                table = self.table_of(f"t = {head} over ({inside})")
                names = [name for name, _ in table.columns()]
                keys = tuple((names.index(name), down) for name, down in definition[5])
                numbers = [names.index(name) for name in definition[4]]
                frames = {}
                for row in table.rows():
                    line = model.order(model.partition(table.rows(), numbers, row), keys)
                    frame = model.frame(line, keys, definition[6], line.index(row))
                    frames[row[0]] = [line[place][0] for place in frame]
                for row_id, _ in table.rows():
                    with self.subTest(head=head, inside=inside, row_id=row_id):
                        self.assertEqual(table.frame(row_id, "t"), frames[row_id])
                        wanted = sorted(other for other in frames if row_id in frames[other])
                        self.assertEqual(table.dependents(row_id, "t"), wanted)

    def test_spelled_out(self):
        table = self.table_of("t = number over (partition y order x descending rows 1 before to current)")
        # In order: 8 and 1 and 2 and 6 for a, 7 and 4 for b.
        self.assertEqual([table.frame(i, "t") for i in (8, 1, 2, 6)], [[8], [8, 1], [1, 2], [2, 6]])
        self.assertEqual([table.frame(i, "t") for i in (7, 4, 5)], [[7], [7, 4], [5]])
        self.assertEqual([table.dependents(i, "t") for i in (8, 1, 2, 6)], [[1, 8], [1, 2], [2, 6], [6]])
        self.assertEqual([table.dependents(i, "t") for i in (7, 4, 5)], [[4, 7], [4], [5]])
        self.assertEqual(table.frame(1, "z"), [1, 2, 4, 5, 6, 7, 8])
        self.assertEqual(table.dependents(1, "z"), [1, 2, 4, 5, 6, 7, 8])
        self.assertEqual((type(table.frame(1, "z")), type(table.dependents(1, "z"))), (list, list))

    def test_an_empty_frame(self):
        table = self.table_of("t = sum x over (partition y rows 1 after to 1 after)")
        self.assertEqual((table.frame(5, "t"), table.dependents(5, "t")), ([], []))
        self.assertEqual((table.frame(8, "t"), table.dependents(8, "t")), ([], [6]))

    def test_behind_back(self):
        table = self.table_of("t = size over ()")
        table.back()
        self.assertEqual(table.frame(3, "t"), [1, 2, 3, 4, 5, 6, 7])
        self.refused(BadArgument, {"reason": "row"}, table.frame, 8, "t")

    def test_no_such_row(self):
        table = self.table_of("t = size over ()")
        for row_id in (0, -1, 3, 9, 100):
            self.refused(BadArgument, {"reason": "row"}, table.frame, row_id, "t")
            self.refused(BadArgument, {"reason": "row"}, table.dependents, row_id, "t")
        self.refused(BadArgument, {"reason": "row"}, Table(COLUMNS, TEXTS).frame, 1, "total")

    def test_no_column_of_a_definition(self):
        table = self.table_of("t = size over ()")
        for name in ("x", "y", "gone", "", "size", "T"):
            self.refused(BadArgument, {"reason": "column"}, table.frame, 1, name)
            self.refused(BadArgument, {"reason": "column"}, table.dependents, 1, name)
        table = Table(COLUMNS, ())
        table.do((ANN,))
        for name in ("who", "day", "paid", "total"):
            self.refused(BadArgument, {"reason": "column"}, table.frame, 1, name)

    def test_a_definition_over_computed_columns(self):
        table = self.table()
        self.assertEqual([table.frame(i, "place") for i in (1, 2, 3)], [[3, 1], [3, 1, 2], [3]])
        self.assertEqual([table.dependents(i, "place") for i in (1, 2, 3)], [[1, 2], [2], [1, 2, 3]])


class LongRowsTest(TableTestCase):
    """Long rows of doings, back and forth, against the model."""

    def test_against_the_model(self):
        for seed in range(24):
            dice = random.Random(seed)
            columns, texts = TABLES[seed % len(TABLES)]
            definitions = tuple(parse_definition(text) for text in texts)
            table, slow = Table(columns, texts), table_model.ModelTable(columns, definitions)
            for _ in range(30):
                ahead = table.rows()
                word = dice.choice(("do", "do", "do", "back", "forth"))
                if word == "do":
                    deeds = table_model.random_deeds(dice, columns, [row_id for row_id, _ in ahead])
                    wanted = slow.do(deeds)
                    if isinstance(wanted, str):
                        self.refused(BadDeed, {"reason": wanted}, table.do, deeds)
                        continue
                    told = table.do(deeds)
                else:
                    told, wanted = getattr(table, word)(), getattr(slow, word)()
                self.assertEqual(told, wanted, (seed, table.journal()))
                self.assertEqual(table.worked(), slow.worked, (seed, table.journal()))
                self.assertEqual(table.rows(), slow.rows(), (seed, table.journal()))
                self.assertEqual((table.version(), table.versions()), (slow.at, len(slow.versions)))
                self.assertEqual(table.next_id(), slow.versions[slow.at][1])
                self.assertEqual(table.journal(), slow.journal)
                self.check_lists(table, told, ahead)

    def check_lists(self, table, told, ahead):
        if told is not None:
            self.assertTrue(is_canonical(told))
            self.assertEqual(apply(ahead, told), table.rows())
            self.assertEqual(apply(table.rows(), inverse(told)), ahead)
        for version in range(table.versions()):
            self.assertEqual(compose(table.since(version), inverse(table.since(version))), [])

    def test_lists_told_compose(self):
        for seed in range(18):
            dice = random.Random(100 + seed)
            columns, texts = TABLES[seed % len(TABLES)]
            definitions = tuple(parse_definition(text) for text in texts)
            table = Table(columns, texts)
            rows_ahead, lists = [table.rows()], []
            for _ in range(20):
                word = dice.choice(("do", "do", "do", "back", "forth"))
                if word != "do":
                    told = getattr(table, word)()
                else:
                    ids = [row_id for row_id, _ in table.rows()]
                    try:
                        told = table.do(table_model.random_deeds(dice, columns, ids))
                    except BadDeed:
                        continue
                if told is None:
                    continue
                lists.append(told)
                rows_ahead.append(table.rows())
                base = tuple((row_id, cells[:len(columns)]) for row_id, cells in table.rows())
                self.assertEqual(table.rows(), evaluate(columns, definitions, base[::-1]))
            for start in range(len(lists)):
                together = []
                for end in range(start, len(lists)):
                    together = compose(together, lists[end])
                    self.assertEqual(together, table_model.changes(rows_ahead[start], rows_ahead[end + 1]))


class ArgumentsTest(unittest.TestCase):
    METHODS = ("do", "back", "forth", "worked", "rows", "columns", "definitions", "version", "versions", "next_id", "since",
               "frame", "dependents", "journal")

    def test_methods_are_defined_in_the_class(self):
        for name in self.METHODS:
            self.assertIn(name, vars(Table))
        self.assertEqual(list(inspect.signature(Table).parameters), ["columns", "definitions"])
        self.assertEqual(list(inspect.signature(Table.do).parameters), ["self", "deeds"])
        self.assertEqual(list(inspect.signature(Table.since).parameters), ["self", "version"])

    def test_arguments_stay_as_they_were(self):
        deeds = (ANN, BOB, ("set", 1, "day", 9), ("remove", 2))
        before = copy.deepcopy(deeds)
        table = Table(COLUMNS, TEXTS)
        table.do(deeds)
        self.assertEqual(deeds, before)


if __name__ == "__main__":
    unittest.main()
