"""How definitions fit columns, and the columns that they make (c5, t5, t6, c10)."""

import inspect
import unittest

from windowtable import fitting
from windowtable.errors import BadDefinition
from windowtable.fitting import all_columns, fit, kind_of, parts
from windowtable.reading import parse_definition

COLUMNS = (("who", "text"), ("day", "integer"), ("paid", "integer"), ("note", "text"))
PLAIN = ("number", "rank", "dense", "size", "tile 3")
OF_A_COLUMN = ("lag {} 1", "lead {} 0", "nth {} 2", "count {}", "different {}", "sum {}", "least {}", "greatest {}",
               "median {}", "first {}", "last {}")
KEEPS_KIND = ("lag {} 1", "lead {} 0", "nth {} 2", "least {}", "greatest {}", "first {}", "last {}")


def told(text, columns=COLUMNS):
    return fit(parse_definition(text), columns)


class FitsTest(unittest.TestCase):
    def test_each_function(self):
        for head in PLAIN:
            with self.subTest(head):
                self.assertEqual(told(f"t = {head} over (partition who order day)"), "")
        for head in OF_A_COLUMN:
            for name in ("who", "day"):
                if name == "day" or head not in ("sum {}", "median {}"):
                    with self.subTest(head, name=name):
                        self.assertEqual(told(f"t = {head.format(name)} over (partition note order paid)"), "")

    def test_every_column_everywhere(self):
        for name, _ in COLUMNS:
            with self.subTest(name):
                self.assertEqual(told(f"t = count {name} over (partition {name}, {name} order {name})"), "")

    def test_right_frames(self):
        for text in (
            "t = sum paid over (order day range 2 before to 2 after)",
            "t = sum paid over (order day descending range 0 before to end)",
            "t = sum paid over (order who range start to current)",
            "t = sum paid over (order who, day range current to end without ties)",
            "t = sum paid over (range current to current)",
            "t = sum paid over (order who groups 1 before to 1 after)",
            "t = sum paid over (order who, note rows 1 before to 1 after)",
            "t = sum paid over (rows 9999 after to 9999 before)",
            "t = number over (order day range 2 before to 2 after)",
        ):
            with self.subTest(text):
                self.assertEqual(told(text), "")


class RefusedTest(unittest.TestCase):
    def test_duplicate_column(self):
        for name, _ in COLUMNS:
            with self.subTest(name):
                self.assertEqual(told(f"{name} = size over ()"), f"duplicate column {name}")
                self.assertEqual(told(f"{name} = count {name} over ()"), f"duplicate column {name}")

    def test_unknown_column(self):
        for text, name in (
            ("t = sum x over ()", "x"),
            ("t = sum t over ()", "t"),
            ("t = lag x 1 over (partition y order z)", "x"),
            ("t = size over (partition y order z)", "y"),
            ("t = size over (partition who, y, x)", "y"),
            ("t = size over (partition who order z)", "z"),
            ("t = size over (order day, z, y)", "z"),
            ("t = size over (partition who, day order paid descending, t)", "t"),
            ("t = count who over (partition a order b)", "a"),
            ("t = tile 2 over (order whoo)", "whoo"),
        ):
            with self.subTest(text):
                self.assertEqual(told(text), f"unknown column {name}")
        self.assertEqual(told("t = count day over ()", ()), "unknown column day")

    def test_kind(self):
        for name in ("who", "note"):
            self.assertEqual(told(f"t = sum {name} over ()"), f"kind of {name}")
            self.assertEqual(told(f"t = median {name} over (partition who order day)"), f"kind of {name}")

    def test_frame(self):
        for text in (
            "t = {} over (rows end to end)",
            "t = {} over (groups start to start)",
            "t = {} over (range end to current)",
            "t = {} over (order day range current to start)",
            "t = {} over (range 1 before to current)",
            "t = {} over (range start to 0 after)",
            "t = {} over (order who range 1 before to current)",
            "t = {} over (order note descending range current to 1 after)",
            "t = {} over (order day, paid range 1 before to current)",
            "t = {} over (order day, day range 1 before to current)",
            "t = {} over (partition day range 1 before to current without group)",
        ):
            for head in (*PLAIN, "sum paid", "lag who 1", "lead day 2", "nth note 1", "first who"):
                with self.subTest(text.format(head)):
                    self.assertEqual(told(text.format(head)), "frame")

    def test_the_first_reason_is_told(self):
        for text, reason in (
            ("who = sum x over (rows end to start)", "duplicate column who"),
            ("who = sum who over ()", "duplicate column who"),
            ("who = size over (rows end to start)", "duplicate column who"),
            ("t = sum who over (order x rows end to start)", "unknown column x"),
            ("t = median note over (partition x)", "unknown column x"),
            ("t = size over (order x range 1 before to current)", "unknown column x"),
            ("t = sum who over (rows end to start)", "kind of who"),
            ("t = median note over (order who range 1 before to current)", "kind of note"),
        ):
            with self.subTest(text):
                self.assertEqual(told(text), reason)


class KindTest(unittest.TestCase):
    def test_the_kind_of_their_column(self):
        for head in KEEPS_KIND:
            for name, kind in COLUMNS:
                with self.subTest(head, name=name):
                    self.assertEqual(kind_of(parse_definition(f"t = {head.format(name)} over ()"), COLUMNS), kind)

    def test_integers(self):
        for head in PLAIN:
            with self.subTest(head):
                self.assertEqual(kind_of(parse_definition(f"t = {head} over (partition who)"), COLUMNS), "integer")
        for head in OF_A_COLUMN:
            if head not in KEEPS_KIND:
                for name in ("day", "who") if head in ("count {}", "different {}") else ("day", "paid"):
                    with self.subTest(head, name=name):
                        definition = parse_definition(f"t = {head.format(name)} over ()")
                        self.assertEqual(kind_of(definition, COLUMNS), "integer")


class AllColumnsTest(unittest.TestCase):
    def columns(self, *texts):
        return all_columns(COLUMNS, tuple(parse_definition(text) for text in texts))

    def refused(self, number, reason, *texts):
        with self.subTest(texts), self.assertRaises(BadDefinition) as caught:
            self.columns(*texts)
        self.assertIs(type(caught.exception), BadDefinition)
        self.assertEqual((caught.exception.number, caught.exception.reason), (number, reason))

    def test_no_definitions(self):
        self.assertEqual(self.columns(), COLUMNS)

    def test_over_the_columns_of_those_ahead(self):
        self.assertEqual(
            self.columns(
                "a = lag who 1 over (order day)", "b = different a over (partition a)",
                "c = least a over (order b range 3 before to current)", "d = sum b over (partition c order a)"),
            (*COLUMNS, ("a", "text"), ("b", "integer"), ("c", "text"), ("d", "integer")))

    def test_the_first_one_that_does_not_fit(self):
        self.refused(0, "unknown column b", "a = sum b over ()", "b = sum paid over ()")
        self.refused(0, "unknown column a", "a = sum a over ()")
        self.refused(1, "duplicate column a", "a = size over ()", "a = size over ()")
        self.refused(1, "kind of a", "a = first who over ()", "b = sum a over ()", "c = sum x over ()")
        self.refused(2, "frame", "a = size over ()", "b = last note over ()",
                     "c = size over (order b range 1 before to current)", "who = size over ()")
        self.refused(3, "duplicate column who", "a = size over ()", "b = size over ()", "c = size over ()",
                     "who = size over ()")
        self.refused(3, "unknown column e", "a = size over ()", "b = size over ()", "c = size over ()",
                     "d = size over (partition e)")

    def test_arguments_stay(self):
        columns = (("x", "text"),)
        definitions = (parse_definition("a = size over ()"),)
        all_columns(columns, definitions)
        self.assertEqual(columns, (("x", "text"),))
        self.assertEqual(definitions, (parse_definition("a = size over ()"),))


class PartsTest(unittest.TestCase):
    def test_numbers_by_names(self):
        for text, wanted in (
            ("t = size over ()", ((), (), None)),
            ("t = tile 2 over (partition note)", ((3,), (), None)),
            ("t = sum paid over ()", ((), (), 2)),
            ("t = lag who 1 over (order day)", ((), ((1, False),), 0)),
            ("t = nth day 2 over (partition note, who order paid descending, day, note descending)",
             ((3, 0), ((2, True), (1, False), (3, True)), 1)),
            ("t = count who over (partition who, who, day order who, who descending)",
             ((0, 0, 1), ((0, False), (0, True)), 0)),
        ):
            with self.subTest(text):
                self.assertEqual(parts(parse_definition(text), COLUMNS), wanted)

    def test_shapes(self):
        numbers, keys, column = parts(parse_definition("t = sum paid over (partition who order day)"), COLUMNS)
        self.assertIs(type(numbers), tuple)
        self.assertIs(type(keys), tuple)
        self.assertIs(type(keys[0]), tuple)
        self.assertIs(type(keys[0][1]), bool)
        self.assertIs(type(column), int)


class InterfaceTest(unittest.TestCase):
    def test_example(self):
        definitions = (parse_definition("a = size over ()"), parse_definition("b = least x over (order a)"))
        self.assertEqual(
            all_columns((("x", "text"),), definitions), (("x", "text"), ("a", "integer"), ("b", "text")))

    def test_functions_with_their_arguments(self):
        wanted = {
            "fit": ["definition", "columns"], "kind_of": ["definition", "columns"],
            "all_columns": ["columns", "definitions"], "parts": ["definition", "columns"],
        }
        for name, arguments in wanted.items():
            with self.subTest(name):
                function = getattr(fitting, name)
                self.assertEqual(list(inspect.signature(function).parameters), arguments)
                self.assertEqual(function.__module__, "windowtable.fitting")


if __name__ == "__main__":
    unittest.main()
