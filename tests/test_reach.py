"""Reach: the columns that a definition looks at, touched partitions, and rows worked out anew (r1, r2)."""

import copy
import inspect
import itertools
import random
import unittest

import table_model
from windowtable import reach as reach_file
from windowtable.columns import evaluate
from windowtable.errors import BadDefinition
from windowtable.reach import looks_at, renew, touched
from windowtable.reading import parse_definition

COLUMNS = (("who", "text"), ("day", "integer"), ("paid", "integer"), ("note", "text"))
NAMES = [name for name, _ in COLUMNS]
ROWS = (
    (1, ("ann", 1, 10, "x")),
    (2, ("bob", 1, 7, "x")),
    (3, ("ann", 4, 5, None)),
    (4, (None, 2, None, "y")),
    (7, ("bob", 3, 7, "y")),
    (9, (None, 2, 1, "x")),
)
SUM = "t = sum paid over (partition who order day)"


def rows_with(*others, without=()):
    """ROWS with other cells for some ids, and without some."""
    cells_of = {**dict(ROWS), **dict(others)}
    return tuple((row_id, cells_of[row_id]) for row_id in sorted(cells_of) if row_id not in without)


def touched_by(text, others, rows=ROWS):
    return touched(parse_definition(text), COLUMNS, rows, others)


class LooksAtTest(unittest.TestCase):
    def test_spelled_out(self):
        for text, wanted in (
            ("t = number over ()", ()),
            ("t = size over ()", ()),
            ("t = tile 2 over (rows 1 before to end)", ()),
            ("t = number over (order note)", (3,)),
            ("t = rank over (partition who)", (0,)),
            ("t = dense over (partition note, who order day)", (0, 1, 3)),
            ("t = sum paid over ()", (2,)),
            ("t = count note over (rows current to end)", (3,)),
            ("t = lag who 1 over (order day descending)", (0, 1)),
            ("t = nth paid 2 over (partition note)", (2, 3)),
            ("t = median paid over (partition who order day range 3 before to current)", (0, 1, 2)),
            ("t = first note over (partition note, day order paid, who)", (0, 1, 2, 3)),
            # A column that is named more than once stands there once.
            ("t = sum paid over (partition paid order paid)", (2,)),
            ("t = least day over (partition who, day, who order day, note descending, day descending)", (0, 1, 3)),
            ("t = greatest note over (order paid descending, note)", (2, 3)),
        ):
            with self.subTest(text):
                told = looks_at(parse_definition(text), COLUMNS)
                self.assertEqual(told, wanted)
                self.assertIs(type(told), tuple)

    def test_computed_columns_ahead(self):
        columns = (*COLUMNS, ("total", "integer"), ("place", "integer"))
        told = looks_at(parse_definition("t = lead place 1 over (partition total order who)"), columns)
        self.assertEqual(told, (0, 4, 5))

    def test_columns_are_numbered_as_they_stand(self):
        definition = parse_definition(SUM)
        for columns in itertools.permutations(COLUMNS):
            names = [name for name, _ in columns]
            wanted = tuple(sorted((names.index("who"), names.index("day"), names.index("paid"))))
            self.assertEqual(looks_at(definition, columns), wanted)


class TouchedTest(unittest.TestCase):
    def test_nothing_changed(self):
        for text in (SUM, "t = number over ()", "t = lag note 1 over (partition day order paid)"):
            self.assertEqual(touched_by(text, ROWS), [])
            self.assertEqual(touched_by(text, ROWS[::-1]), [])
            self.assertEqual(touched_by(text, (), ()), [])

    def test_a_row_came(self):
        self.assertEqual(touched_by(SUM, rows_with((5, ("bob", 9, 1, None)))), [(2, 5, 7)])
        self.assertEqual(touched_by(SUM, rows_with((12, (None, 0, 1, None)))), [(4, 9, 12)])
        self.assertEqual(touched_by(SUM, rows_with((5, ("cid", 9, 1, None)))), [(5,)])
        self.assertEqual(touched_by(SUM, ROWS, ()), [(4, 9), (1, 3), (2, 7)])
        self.assertEqual(touched_by("t = number over ()", rows_with((5, ("cid", 9, 1, None)))), [(1, 2, 3, 4, 5, 7, 9)])

    def test_a_row_went(self):
        self.assertEqual(touched_by(SUM, rows_with(without=(3,))), [(1,)])
        self.assertEqual(touched_by(SUM, rows_with(without=(7, 4))), [(9,), (2,)])
        self.assertEqual(touched_by(SUM, rows_with(without=(1, 3))), [])
        self.assertEqual(touched_by(SUM, ()), [])
        self.assertEqual(touched_by("t = size over ()", rows_with(without=(3,))), [(1, 2, 4, 7, 9)])

    def test_a_column_that_is_looked_at_changed(self):
        # Its own column, that of a key.
        self.assertEqual(touched_by(SUM, rows_with((3, ("ann", 4, 6, None)))), [(1, 3)])
        self.assertEqual(touched_by(SUM, rows_with((2, ("bob", None, 7, "x")))), [(2, 7)])
        self.assertEqual(touched_by("t = rank over (order note)", rows_with((2, ("bob", 1, 7, None)))), [(1, 2, 3, 4, 7, 9)])
        self.assertEqual(touched_by("t = count note over ()", rows_with((3, ("ann", 4, 5, "x")))), [(1, 2, 3, 4, 7, 9)])

    def test_a_column_that_is_not_looked_at_changed(self):
        self.assertEqual(touched_by(SUM, rows_with((3, ("ann", 4, 5, "z")))), [])
        self.assertEqual(touched_by("t = number over (partition who)", rows_with((3, ("ann", 0, 0, "z")))), [])
        self.assertEqual(touched_by("t = rank over (order note)", rows_with((2, ("ann", 3, None, "x")))), [])
        self.assertEqual(touched_by("t = size over ()", rows_with((2, ("ann", 3, None, "z")))), [])
        # The first row changed in one that is, the other one in one that is not.
        others = rows_with((1, ("ann", 1, 11, "x")), (2, ("bob", 1, 7, "z")))
        self.assertEqual(touched_by(SUM, others), [(1, 3)])

    def test_a_row_moved_to_another_partition(self):
        # The one that it left is touched as long as it is there behind.
        self.assertEqual(touched_by(SUM, rows_with((3, ("bob", 4, 5, None)))), [(1,), (2, 3, 7)])
        self.assertEqual(touched_by(SUM, rows_with((3, (None, 4, 5, None)))), [(3, 4, 9), (1,)])
        self.assertEqual(touched_by(SUM, rows_with((3, ("cid", 4, 5, None)))), [(1,), (3,)])
        others = rows_with((1, ("bob", 1, 10, "x")), (3, ("bob", 4, 5, None)))
        self.assertEqual(touched_by(SUM, others), [(1, 2, 3, 7)])
        # Exchanged, so that both have as many rows as ahead.
        others = rows_with((1, ("bob", 1, 10, "x")), (2, ("ann", 1, 7, "x")))
        self.assertEqual(touched_by(SUM, others), [(2, 3), (1, 7)])

    def test_a_row_came_to_the_partition_that_all_others_left(self):
        others = rows_with((1, ("bob", 1, 10, "x")), (3, ("bob", 4, 5, None)), (8, ("ann", 1, 1, None)))
        self.assertEqual(touched_by(SUM, others), [(8,), (1, 2, 3, 7)])
        others = rows_with((2, ("ann", 1, 7, "x")), (1, ("cid", 1, 10, "x")), without=(3,))
        self.assertEqual(touched_by(SUM, others), [(2,), (7,), (1,)])

    def test_partitions_go_by_the_values_of_their_columns(self):
        text = "t = size over (partition day, who)"
        self.assertEqual(touched_by(text, ROWS, ()), [(1,), (2,), (4, 9), (7,), (3,)])
        self.assertEqual(touched_by("t = size over (partition note)", ROWS, ()), [(3,), (1, 2, 9), (4, 7)])
        self.assertEqual(touched_by("t = size over (partition paid)", ROWS[::-1], ()), [(4,), (9,), (3,), (2, 7), (1,)])

    def test_in_any_order_of_rows(self):
        others = rows_with((3, ("bob", 4, 5, None)), (20, (None, 1, 1, None)), without=(9,))
        for rows in itertools.permutations(others):
            self.assertEqual(touched_by(SUM, rows), [(4, 20), (1,), (2, 3, 7)])
            self.assertEqual(touched_by(SUM, others, rows), [])

    def test_kinds(self):
        told = touched_by(SUM, rows_with((3, ("bob", 4, 5, None))))
        self.assertIs(type(told), list)
        self.assertEqual([type(ids) for ids in told], [tuple, tuple])

    def test_rows_with_cells_of_computed_columns(self):
        columns = (*COLUMNS, ("total", "integer"))
        rows = tuple((row_id, cells + (row_id // 4,)) for row_id, cells in ROWS)
        others = tuple((row_id, cells + (1,)) for row_id, cells in ROWS)
        for text, wanted in (
            ("t = size over (partition total)", [(1, 2, 3, 4, 7, 9)]),
            ("t = sum total over (partition who)", [(4, 9), (1, 3), (2, 7)]),
            ("t = sum paid over (partition who)", []),
        ):
            self.assertEqual(touched(parse_definition(text), columns, rows, others), wanted, text)


class RenewTest(unittest.TestCase):
    TEXTS = (
        (),
        (SUM,),
        ("t = number over ()",),
        ("total = sum paid over (partition who order day)", "place = rank over (order total descending)"),
        ("run = lag paid 1 over (partition who order day)", "more = count run over (partition note)",
         "last2 = greatest more over (partition run rows current to end)"),
        ("a = size over (partition note)", "b = dense over (partition a order day)", "c = median b over (partition a, who)"),
        ("a = tile 2 over (partition who order paid)", "b = size over (partition a)",
         "c = nth day 2 over (partition who order b descending groups current to end)", "d = different c over (partition b)"),
    )

    def renewed(self, texts, base, others):
        definitions = tuple(parse_definition(text) for text in texts)
        old = evaluate(COLUMNS, definitions, base)
        return definitions, old, renew(COLUMNS, definitions, old, others)

    def test_spelled_out(self):
        texts = self.TEXTS[3]
        _, _, told = self.renewed(texts, ROWS, rows_with((3, ("ann", 4, 6, None))))
        self.assertEqual(told, ((
            (1, ("ann", 1, 10, "x", 10, 3)), (2, ("bob", 1, 7, "x", 7, 4)), (3, ("ann", 4, 6, None, 16, 1)),
            (4, (None, 2, None, "y", 1, 5)), (7, ("bob", 3, 7, "y", 14, 2)), (9, (None, 2, 1, "x", 1, 5)),
        ), (2, 6)))
        # The total of ann stays as it was, so the places are not worked out anew.
        _, old, told = self.renewed(texts, ROWS, rows_with((3, ("ann", 5, 5, None))))
        self.assertEqual(told[1], (2, 0))
        self.assertEqual([cells[4:] for _, cells in told[0]], [cells[4:] for _, cells in old])
        _, old, told = self.renewed(texts, ROWS, rows_with((3, ("ann", 4, 5, "q"))))
        self.assertEqual(told[1], (0, 0))
        self.assertEqual(told[0], tuple((i, c if i != 3 else ("ann", 4, 5, "q") + c[4:]) for i, c in old))

    def test_a_chain_ends_where_values_stay(self):
        texts = ("a = size over (partition who)", "b = size over (partition note)", "c = sum a over (partition day)")
        # Two rows of a partition exchange their days: the sizes stay, the sums of both days are worked out.
        _, _, told = self.renewed(texts, ROWS, rows_with((1, ("ann", 4, 10, "x")), (3, ("ann", 1, 5, None))))
        self.assertEqual(told[1], (0, 0, 3))
        _, _, told = self.renewed(texts, ROWS, rows_with((1, ("ann", 1, 10, "y"))))
        self.assertEqual(told[1], (0, 5, 0))
        # A row of ann becomes one of bob: both sizes differ, and with them four values in three days.
        _, _, told = self.renewed(texts, ROWS, rows_with((1, ("bob", 1, 10, "x"))))
        self.assertEqual(told[1], (4, 0, 4))

    def test_nothing_changed(self):
        for texts in self.TEXTS:
            for base in (ROWS, ROWS[::-1], ()):
                _, old, told = self.renewed(texts, base, base)
                self.assertEqual(told, (old, tuple(0 for _ in texts)))

    def test_all_came_and_all_went(self):
        for texts in self.TEXTS:
            definitions, _, told = self.renewed(texts, (), ROWS)
            self.assertEqual(told, (evaluate(COLUMNS, definitions, ROWS), tuple(6 for _ in texts)))
            _, _, told = self.renewed(texts, ROWS, ())
            self.assertEqual(told, ((), tuple(0 for _ in texts)))

    def test_against_evaluate_and_the_model(self):
        dice = random.Random(5)

        def some_rows():
            ids = dice.sample(range(1, 9), dice.randrange(1, 8))
            return [(i, (dice.choice(("a", "b", None)), dice.choice((1, 2, 3)), dice.choice((None, 1, 5)),
                         dice.choice(("x", "y")))) for i in ids]

        for turn in range(150):
            texts = self.TEXTS[turn % len(self.TEXTS)]
            definitions = tuple(parse_definition(text) for text in texts)
            base = some_rows()
            others = dict(base)
            for row_id, cells in some_rows()[:dice.randrange(4)]:
                others.pop(row_id, None)
                if dice.random() < 0.7:
                    others[row_id] = cells
            others = tuple(others.items())
            old = evaluate(COLUMNS, definitions, tuple(base))
            told = renew(COLUMNS, definitions, old, others)
            wanted = table_model.full_rows(COLUMNS, definitions, others)
            self.assertEqual(told, (wanted, table_model.counts(COLUMNS, definitions, old, wanted)), (texts, base, others))
            self.assertEqual(told[0], evaluate(COLUMNS, definitions, others))

    def test_touched_against_the_model(self):
        dice = random.Random(6)
        texts = (SUM, "t = size over (partition note, day)", "t = rank over (order note, paid)", "t = lag paid 2 over (partition who)")
        for turn in range(200):
            rows, others = [
                tuple((i, (dice.choice("ab"), dice.choice((1, None)), dice.choice((1, 2)), dice.choice("xy")))
                      for i in dice.sample(range(1, 8), dice.randrange(8)))
                for _ in range(2)
            ]
            definition = parse_definition(texts[turn % len(texts)])
            told = touched(definition, COLUMNS, rows, others)
            wanted = table_model.touched_ids(definition, NAMES, rows, others)
            self.assertEqual(sorted(row_id for ids in told for row_id in ids), sorted(wanted))

    def test_cells_of_partitions_that_are_not_touched_are_kept_as_they_are(self):
        # A wrong cell shows that its partition was not worked out anew.
        definitions = (parse_definition(SUM),)
        old = tuple((row_id, cells[:4] + (1000 + row_id,)) for row_id, cells in evaluate(COLUMNS, definitions, ROWS))
        told = renew(COLUMNS, definitions, old, rows_with((1, ("ann", 1, 11, "x"))))
        self.assertEqual([(row_id, cells[4]) for row_id, cells in told[0]],
                         [(1, 11), (2, 1002), (3, 16), (4, 1004), (7, 1007), (9, 1009)])
        self.assertEqual(told[1], (2,))

    def test_kinds_of_what_is_told(self):
        _, _, told = self.renewed(self.TEXTS[3], ROWS, ROWS[:2])
        self.assertEqual([type(part) for part in (told, *told)], [tuple, tuple, tuple])

    def test_definitions_that_do_not_fit(self):
        with self.assertRaises(BadDefinition) as caught:
            renew(COLUMNS, (parse_definition(SUM), parse_definition("u = sum gone over ()")), (), ())
        self.assertEqual((caught.exception.number, caught.exception.reason), (1, "unknown column gone"))


class ArgumentsTest(unittest.TestCase):
    def test_names_of_arguments(self):
        for function, names in (
            ("looks_at", ["definition", "columns"]),
            ("touched", ["definition", "columns", "rows", "others"]),
            ("renew", ["columns", "definitions", "old", "base"]),
        ):
            self.assertEqual(list(inspect.signature(getattr(reach_file, function)).parameters), names)

    def test_arguments_stay_as_they_were(self):
        definitions = (parse_definition(SUM),)
        old = evaluate(COLUMNS, definitions, ROWS)
        arguments = (COLUMNS, definitions, old, ROWS[::-1])
        before = copy.deepcopy(arguments)
        renew(*arguments)
        touched(definitions[0], COLUMNS, ROWS[::-1], ROWS)
        self.assertEqual(arguments, before)


if __name__ == "__main__":
    unittest.main()
