"""When a view fits columns, and when a condition holds (u4, u5)."""

import copy
import itertools
import random
import unittest

import model
from viewgrammar import random_condition
from windowtable.conditions import fits, holds, parse_view

COLUMNS = (("who", "text"), ("note", "text"), ("day", "integer"), ("paid", "integer"))


def fit_of(text, columns=COLUMNS):
    return fits(parse_view(text), columns)


class FitsTest(unittest.TestCase):
    def test_fits(self):
        for text in (
            "show who", "show who, note, day, paid, who", "show day where who is none and paid is none", "show day order who, paid",
            "show day where who = 'a' and note < '' and day = 1 and paid > -1", "show day where who = note or day < paid",
            "show day where who = who and day > day", "show day first 3",
        ):
            with self.subTest(text):
                told = fit_of(text)
                self.assertEqual(told, "")
                self.assertIs(type(told), str)

    def test_unknown_columns(self):
        for text, name in (
            ("show x", "x"), ("show who, x, y", "x"), ("show who where x is none", "x"), ("show who where x = 1", "x"),
            ("show who where who = x", "x"), ("show who where day = 1 and (x = 1 or y = 1)", "x"), ("show who order x", "x"),
            ("show who order who, day descending, x", "x"), ("show who where not not x is none", "x"),
            # The first one in the order of the text.
            ("show z where y is none order x", "z"), ("show who where y is none order x", "y"), ("show who, z where y = x", "z"),
            ("show who where y = x", "y"), ("show who where who = x and y is none", "x"), ("show who where x < y or z = 1", "x"),
            ("show who where (not z = 1 and y is none) or x = 1", "z"), ("show who where paid > y order x", "y"),
            ("show who order z, y", "z"), ("show who where z = z order y", "z"), ("show x, y, z", "x"), ("show z, y, x", "z"),
        ):
            with self.subTest(text):
                self.assertEqual(fit_of(text), f"unknown column {name}")
        self.assertEqual(fit_of("show day", ()), "unknown column day")

    def test_kinds(self):
        for text, name in (
            ("show who where who = 1", "who"), ("show who where who < 0", "who"), ("show who where day = 'a'", "day"),
            ("show who where day > ''", "day"), ("show who where who = day", "who"), ("show who where day = who", "day"),
            ("show who where note < paid", "note"), ("show who where paid > note", "paid"),
            ("show day where not (day = 1 and (paid = 2 or who = -3))", "who"),
            # The first comparison in the order of the text.
            ("show day where who = 1 and day = 'a'", "who"), ("show day where day = 'a' and who = 1", "day"),
            ("show day where (day = 1 or note = paid) and who = 1", "note"), ("show day where day = 1 or (paid = 'a' and who = 1)", "paid"),
            ("show day where who is none or note = 7", "note"),
        ):
            with self.subTest(text):
                self.assertEqual(fit_of(text), f"kinds of {name}")

    def test_unknown_columns_are_told_ahead_of_kinds(self):
        for text in ("show who where who = 1 order x", "show x where who = 1", "show who where who = 1 and x = 1",
                     "show who where day = 'a' or who = x"):
            self.assertEqual(fit_of(text), "unknown column x")

    def test_computed_columns(self):
        columns = (("x", "integer"), ("t", "text"), ("first2", "text"))
        self.assertEqual(fit_of("show first2 where first2 = 'a' or t < first2", columns), "")
        self.assertEqual(fit_of("show first2 where first2 = x", columns), "kinds of first2")


class HoldsTest(unittest.TestCase):
    CELLS = ("b", "", 5, None)

    def check(self, text, cells, wanted):
        with self.subTest(text=text, cells=cells):
            told = holds(parse_view("show who where " + text)[1], COLUMNS, cells)
            self.assertIs(told, wanted)

    def test_no_condition(self):
        self.assertIs(holds(None, COLUMNS, self.CELLS), True)
        self.assertIs(holds(None, COLUMNS, (None, None, None, None)), True)

    def test_is_none(self):
        for name, wanted in (("who", False), ("note", False), ("day", False), ("paid", True)):
            self.check(f"{name} is none", self.CELLS, wanted)
            self.check(f"not {name} is none", self.CELLS, not wanted)
        self.check("day is none", ("b", "", 0, 0), False)

    def test_comparisons_with_values(self):
        for text, wanted in (
            ("day = 5", True), ("day = 4", False), ("day < 5", False), ("day < 6", True), ("day > 5", False), ("day > 4", True),
            ("day > -6", True), ("day < -6", False), ("who = 'b'", True), ("who = 'bb'", False), ("who < 'ba'", True),
            ("who < 'b'", False), ("who > 'b'", False), ("who > 'az'", True), ("who > ''", True), ("note = ''", True), ("note < 'a'", True),
            ("note > ''", False),
        ):
            self.check(text, self.CELLS, wanted)
        # Integers go by size, not digit by digit, and texts letter by letter.
        self.check("day < 9", ("b", "", 10, 1), False)
        self.check("day > 9", ("b", "", 10, 1), True)
        self.check("day < 9", ("b", "", -10, 1), True)
        self.check("who < 'z'", ("abcdef", "", 1, 1), True)
        # Computed integers can be greater than those that can be written.
        self.check("day > 9999", ("b", "", 10 ** 6, 1), True)

    def test_comparisons_with_columns(self):
        for text, cells, wanted in (
            ("day = paid", ("a", "a", 3, 3), True), ("day = paid", ("a", "a", 3, 4), False), ("day < paid", ("a", "a", 3, 4), True),
            ("day < paid", ("a", "a", 4, 3), False), ("day > paid", ("a", "a", 4, 3), True), ("day > paid", ("a", "a", 3, 3), False),
            ("who < note", ("a", "ab", 1, 1), True), ("who > note", ("b", "ab", 1, 1), True), ("who = note", ("b", "b", 1, 1), True),
            ("day = day", ("a", "a", 3, 4), True), ("day < day", ("a", "a", 3, 4), False),
        ):
            self.check(text, cells, wanted)

    def test_nothing_on_either_side(self):
        for sign in "=<>":
            for cells in (("a", "a", 3, None), ("a", "a", None, 3), ("a", "a", None, None)):
                self.check(f"day {sign} paid", cells, False)
                self.check(f"not day {sign} paid", cells, True)
            self.check(f"paid {sign} 0", self.CELLS, False)
            self.check(f"paid {sign} paid", self.CELLS, False)
            self.check(f"who {sign} ''", (None, "", 1, 1), False)
            self.assertIs(holds((sign, "day", ("value", None)), COLUMNS, self.CELLS), False)
            self.assertIs(holds((sign, "paid", ("value", None)), COLUMNS, self.CELLS), False)

    def test_and_or_not(self):
        for one, other, third in itertools.product((True, False), repeat=3):
            cells = (None if one else "a", None if other else "a", None if third else 1, 1)
            p, q, r = "who is none", "note is none", "day is none"
            self.check(f"{p} and {q}", cells, one and other)
            self.check(f"{p} or {q}", cells, one or other)
            self.check(f"{p} and {q} and {r}", cells, one and other and third)
            self.check(f"{p} or {q} or {r}", cells, one or other or third)
            self.check(f"{p} or {q} and {r}", cells, one or (other and third))
            self.check(f"({p} or {q}) and {r}", cells, (one or other) and third)
            self.check(f"not {p} and {q}", cells, not one and other)
            self.check(f"not ({p} and {q}) or {r}", cells, not (one and other) or third)
            self.check(f"not not ({p} or {q})", cells, one or other)

    def test_at_random(self):
        dice = random.Random(9)
        names = ("a", "b", "c")
        columns = tuple((name, "integer") for name in names)

        def slow(condition, values):
            word = condition[0]
            if word == "not":
                return not slow(condition[1], values)
            if word in ("and", "or"):
                many = sum(1 for part in condition[1] if slow(part, values))
                return many == len(condition[1]) if word == "and" else many > 0
            value = values[condition[1]]
            if word == "none":
                return value is None
            other = values[condition[2][1]] if condition[2][0] == "name" else condition[2][1]
            if value is None or other is None:
                return False
            return model.compare(value, other) == {"=": 0, "<": -1, ">": 1}[word]

        for _ in range(3000):
            condition = random_condition(dice, names, dice.randrange(1, 7))
            cells = tuple(dice.choice((None, 0, 7, 8, -1, "", "a", "b")) for _ in names)
            self.assertIs(holds(condition, columns, cells), slow(condition, dict(zip(names, cells))), (condition, cells))

    def test_arguments_stay_as_they_were(self):
        view = parse_view("show who where (day = 1 or not who = 'a') and paid is none")
        before = copy.deepcopy(view)
        fits(view, COLUMNS)
        holds(view[1], COLUMNS, self.CELLS)
        self.assertEqual(view, before)


if __name__ == "__main__":
    unittest.main()
