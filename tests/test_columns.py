"""Computed columns (k1, k2)."""

import inspect
import itertools
import unittest

import model
from windowtable import columns as columns_file
from windowtable.columns import column_of, evaluate
from windowtable.errors import BadDefinition
from windowtable.fitting import all_columns
from windowtable.functions import window_value
from windowtable.reading import parse_definition

COLUMNS = (("who", "text"), ("day", "integer"), ("paid", "integer"))
ROWS = (
    (12, ("ann", 4, 5)),
    (3, ("bob", 1, 7)),
    (1, ("ann", 1, 10)),
    (7, (None, 2, None)),
    (20, ("bob", 1, -2)),
    (4, ("ann", None, 3)),
    (9, (None, 8, 7)),
)
HEADS = (
    "number", "rank", "dense", "size", "tile 2", "lag who 1", "lag paid 0", "lead day 2", "lead who 9", "nth who 2",
    "nth paid 1", "count who", "count paid", "different who", "different day", "sum paid", "least who", "least paid",
    "greatest who", "greatest day", "median paid", "median day", "first who", "first paid", "last who", "last day",
)
INSIDES = (
    "", "partition who", "order day", "partition who order day", "partition who order day descending, paid",
    "order paid descending range 3 before to 2 after", "partition who order day rows 1 before to current",
    "order who groups 1 before to 1 after without current", "partition who, day order paid rows current to end",
    "partition who order day range current to 9 after without ties", "order who, paid, day rows 2 after to end",
    "order day range 2 before to current without group", "rows 2 before to 1 before",
)


def definitions_of(*texts):
    return tuple(parse_definition(text) for text in texts)


class ColumnOfTest(unittest.TestCase):
    def test_spelled_out(self):
        for text, wanted in (
            ("t = sum paid over (partition who order day)", {1: 13, 3: 5, 4: 3, 7: None, 9: 7, 12: 18, 20: 5}),
            ("t = number over (partition who order day)", {1: 2, 3: 1, 4: 1, 7: 1, 9: 2, 12: 3, 20: 2}),
            ("t = rank over (order paid descending)", {1: 1, 3: 2, 4: 5, 7: 7, 9: 2, 12: 4, 20: 6}),
            ("t = dense over (order paid descending)", {1: 1, 3: 2, 4: 4, 7: 6, 9: 2, 12: 3, 20: 5}),
            ("t = lag paid 1 over (partition who order day)", {1: 3, 3: None, 4: None, 7: None, 9: None, 12: 10, 20: 7}),
            ("t = size over ()", {1: 7, 3: 7, 4: 7, 7: 7, 9: 7, 12: 7, 20: 7}),
            ("t = last who over (order day rows current to 1 after)",
             {1: "bob", 3: "bob", 4: "ann", 7: "ann", 9: None, 12: None, 20: None}),
            ("t = tile 2 over (partition who)", {1: 1, 3: 1, 4: 1, 7: 1, 9: 2, 12: 2, 20: 2}),
        ):
            with self.subTest(text):
                told = column_of(parse_definition(text), COLUMNS, ROWS)
                self.assertEqual(told, wanted)
                self.assertIs(type(told), dict)

    def test_against_the_model_whatever_order_rows_are_told_in(self):
        for head, inside in itertools.product(HEADS, INSIDES):
            definition = parse_definition(f"t = {head} over ({inside})")
            wanted = model.column(definition, COLUMNS, ROWS)
            for rows in (ROWS, ROWS[::-1], ROWS[3:] + ROWS[:3], tuple(sorted(ROWS, key=lambda row: row[0]))):
                self.assertEqual(column_of(definition, COLUMNS, rows), wanted, (head, inside))

    def test_rows_of_other_partitions_have_no_effect(self):
        for head, inside in itertools.product(HEADS, INSIDES):
            if not inside.startswith("partition who"):
                continue
            definition = parse_definition(f"t = {head} over ({inside})")
            whole = column_of(definition, COLUMNS, ROWS)
            for who in ("ann", "bob", None):
                alone = tuple(row for row in ROWS if row[1][0] == who)
                told = column_of(definition, COLUMNS, alone)
                self.assertEqual(told, {row_id: whole[row_id] for row_id, _ in alone}, (head, inside, who))

    def test_the_value_for_a_row_is_that_of_window_value(self):
        definition = parse_definition("t = median paid over (partition who order day descending rows 1 before to end)")
        told = column_of(definition, COLUMNS, ROWS)
        for row in ROWS:
            alone = tuple(other for other in ROWS if other[1][0] == row[1][0])
            self.assertEqual(told[row[0]], window_value(alone, ((1, True),), definition, 2, row[0]))

    def test_a_frame_has_no_effect_on_functions_by_places(self):
        for head in ("number", "rank", "dense", "tile 2", "lag paid 1", "lead who 1"):
            wanted = column_of(parse_definition(f"t = {head} over (partition who order day)"), COLUMNS, ROWS)
            for frame in ("rows 1 after to end", "range 3 before to 1 before", "groups current to current without group"):
                definition = parse_definition(f"t = {head} over (partition who order day {frame})")
                with self.subTest(head, frame=frame):
                    self.assertEqual(column_of(definition, COLUMNS, ROWS), wanted)

    def test_no_rows(self):
        for head, inside in itertools.product(HEADS, INSIDES):
            self.assertEqual(column_of(parse_definition(f"t = {head} over ({inside})"), COLUMNS, ()), {})

    def test_what_is_returned_is_new(self):
        definition = parse_definition("t = size over ()")
        column_of(definition, COLUMNS, ROWS).clear()
        self.assertEqual(len(column_of(definition, COLUMNS, ROWS)), 7)


class EvaluateTest(unittest.TestCase):
    OVER_ONE_ANOTHER = (
        "total = sum paid over (partition who order day)",
        "place = rank over (order total descending)",
        "ahead = lag who 1 over (order place, day)",
        "near = count ahead over (partition ahead order total range 5 before to 5 after)",
    )

    def test_spelled_out(self):
        self.assertEqual(
            evaluate(COLUMNS, definitions_of(*self.OVER_ONE_ANOTHER), ROWS), (
                (1, ("ann", 1, 10, 13, 2, "ann", 1)),
                (3, ("bob", 1, 7, 5, 4, None, 0)),
                (4, ("ann", None, 3, 3, 6, "bob", 2)),
                (7, (None, 2, None, None, 7, "ann", 1)),
                (9, (None, 8, 7, 7, 3, "ann", 1)),
                (12, ("ann", 4, 5, 18, 1, None, 0)),
                (20, ("bob", 1, -2, 5, 4, "bob", 2)),
            ))

    def test_whatever_order_rows_are_told_in(self):
        definitions = definitions_of(*self.OVER_ONE_ANOTHER)
        wanted = evaluate(COLUMNS, definitions, ROWS)
        for rows in itertools.islice(itertools.permutations(ROWS), 0, None, 97):
            self.assertEqual(evaluate(COLUMNS, definitions, rows), wanted)

    def test_each_column_over_those_ahead(self):
        for heads in zip(HEADS, HEADS[7:] + HEADS[:7], HEADS[3:] + HEADS[:3]):
            insides = ("partition who order day", "order a, paid descending", "partition b order paid rows 1 before to end")
            definitions = definitions_of(
                *(f"{name} = {head} over ({inside})" for name, head, inside in zip("abc", heads, insides)))
            known = all_columns(COLUMNS, definitions)
            told = evaluate(COLUMNS, definitions, ROWS)
            self.assertEqual([row_id for row_id, _ in told], [1, 3, 4, 7, 9, 12, 20])
            for number, definition in enumerate(definitions):
                rows = tuple((row_id, cells[:3 + number]) for row_id, cells in told)
                values = {row_id: cells[3 + number] for row_id, cells in told}
                self.assertEqual(values, model.column(definition, known[:3 + number], rows), definition)

    def test_no_definitions(self):
        self.assertEqual(evaluate(COLUMNS, (), ROWS), tuple(sorted(ROWS, key=lambda row: row[0])))

    def test_no_rows(self):
        self.assertEqual(evaluate(COLUMNS, (), ()), ())
        self.assertEqual(evaluate(COLUMNS, definitions_of(*self.OVER_ONE_ANOTHER), ()), ())

    def test_shapes(self):
        told = evaluate(COLUMNS, definitions_of("t = size over ()"), ROWS)
        self.assertIs(type(told), tuple)
        for row in told:
            self.assertIs(type(row), tuple)
            self.assertIs(type(row[1]), tuple)

    def test_definitions_that_do_not_fit(self):
        for number, reason, texts in (
            (0, "unknown column x", ("a = sum x over ()",)),
            (0, "duplicate column who", ("who = size over ()", "b = sum x over ()")),
            (0, "kind of who", ("a = median who over ()", "a = size over ()")),
            (1, "duplicate column a", ("a = size over ()", "a = size over ()")),
            (1, "unknown column c", ("a = size over ()", "b = sum c over ()", "c = size over ()")),
            (2, "kind of b", ("a = size over ()", "b = first who over ()", "c = sum b over ()")),
            (2, "frame", ("a = size over ()", "b = first who over ()", "c = rank over (order b range 1 before to end)")),
            (3, "frame", ("a = size over ()", "b = size over ()", "c = size over ()", "d = size over (rows end to end)")),
        ):
            for rows in (ROWS, ()):
                with self.subTest(texts), self.assertRaises(BadDefinition) as caught:
                    evaluate(COLUMNS, definitions_of(*texts), rows)
                self.assertIs(type(caught.exception), BadDefinition)
                self.assertEqual((caught.exception.number, caught.exception.reason), (number, reason))


class InterfaceTest(unittest.TestCase):
    def test_example(self):
        definitions = definitions_of("a = lag x 1 over (order x)")
        self.assertEqual(
            evaluate((("x", "integer"),), definitions, ((2, (5,)), (1, (9,)))), ((1, (9, 5)), (2, (5, None))))

    def test_functions_with_their_arguments(self):
        wanted = {"column_of": ["definition", "columns", "rows"], "evaluate": ["columns", "definitions", "rows"]}
        for name, arguments in wanted.items():
            with self.subTest(name):
                function = getattr(columns_file, name)
                self.assertEqual(list(inspect.signature(function).parameters), arguments)
                self.assertEqual(function.__module__, "windowtable.columns")


if __name__ == "__main__":
    unittest.main()
