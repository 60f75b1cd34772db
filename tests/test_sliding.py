"""Windows, and intervals that slide (s1, s2, s3)."""

import inspect
import itertools
import unittest

from windowtable import sliding
from windowtable.errors import BadArgument
from windowtable.frames import frame_places, intervals, is_right
from windowtable.functions import aggregate
from windowtable.sliding import Window, slide

FUNCTIONS = ("size", "count", "different", "sum", "least", "greatest", "median", "first", "last")
ONLY_INTEGERS = ("sum", "median")
OTHERS = ("number", "rank", "dense", "tile", "lag", "lead", "nth", "", "x", "Sum", "range")
INTEGERS = (4, None, 1, 4, -2, None, 10, 9, 4, 0, None, None, 3)
TEXTS = ("b", None, "", "ab", "b", "a", None, "abc", "z")
MIXED = ("b", 3, None, "", -1, 3, "b", 10, None, 2)


def given_to(function):
    return (INTEGERS,) if function in ONLY_INTEGERS else (INTEGERS, TEXTS, MIXED)


class RefusedTestCase(unittest.TestCase):
    def refused(self, reason, action, *arguments):
        with self.subTest(reason, arguments=arguments), self.assertRaises(BadArgument) as caught:
            action(*arguments)
        self.assertIs(type(caught.exception), BadArgument)
        self.assertEqual(caught.exception.reason, reason)


class WindowTest(RefusedTestCase):
    def check(self, window, function, values):
        self.assertEqual(window.told(), aggregate(function, values), (function, values))
        self.assertEqual(window.size(), len(values))

    def test_adds_and_drops_in_many_orders(self):
        # Each number tells how many values are added, a negative one how many are taken away.
        steps_of = ((1,) * 13, (1, 1, -1) * 8, (3, -1, 2, -4, 1), (2, -2) * 5, (9, -9), (1, -1) * 6, (5, -2, 4, -3, 2, -4))
        for function, steps in itertools.product(FUNCTIONS, steps_of):
            for given in given_to(function):
                window = Window(function)
                first, end = 0, 0
                self.check(window, function, [])
                for step in steps:
                    for _ in range(abs(step)):
                        if step > 0 and end < len(given):
                            self.assertIsNone(window.add(given[end]))
                            end += 1
                        elif step < 0 and first < end:
                            self.assertIsNone(window.drop())
                            first += 1
                        self.check(window, function, given[first:end])

    def test_every_short_walk(self):
        for function in FUNCTIONS:
            for walk in itertools.product((None, 2, 1, "drop"), repeat=5):
                window = Window(function)
                values = []
                for step in walk:
                    if step != "drop":
                        window.add(step)
                        values.append(step)
                    elif values:
                        window.drop()
                        values.pop(0)
                    self.check(window, function, values)

    def test_told_changes_nothing(self):
        for function in FUNCTIONS:
            window = Window(function)
            window.add(2)
            window.add(1)
            self.assertEqual(window.told(), window.told())
            window.drop()
            self.check(window, function, [1])

    def test_windows_are_their_own(self):
        one, other = Window("sum"), Window("sum")
        one.add(5)
        self.assertEqual((one.told(), one.size(), other.told(), other.size()), (5, 1, None, 0))

    def test_other_functions(self):
        for function in OTHERS:
            self.refused("function", Window, function)

    def test_texts(self):
        for function in ONLY_INTEGERS:
            for ahead in ((), (4,), (4, None, 7)):
                window = Window(function)
                for value in ahead:
                    window.add(value)
                for text in ("a", "", "abc"):
                    self.refused("text", window.add, text)
                    self.check(window, function, list(ahead))
                window.add(2)
                self.check(window, function, [*ahead, 2])
                window.drop()
                self.check(window, function, [*ahead, 2][1:])

    def test_empty(self):
        for function in FUNCTIONS:
            window = Window(function)
            self.refused("empty", window.drop)
            self.check(window, function, [])
            window.add(3)
            window.drop()
            self.refused("empty", window.drop)
            self.check(window, function, [])
            window.add(8)
            self.check(window, function, [8])


class SlideTest(RefusedTestCase):
    ROWS_OF_INTERVALS = (
        (),
        ((0, 0),),
        ((0, 9),),
        ((0, 1), (0, 2), (0, 5), (0, 9)),
        ((0, 9), (1, 9), (5, 9), (9, 9)),
        ((0, 2), (1, 3), (2, 4), (3, 5), (4, 6), (5, 7), (6, 8), (7, 9)),
        ((0, 0), (0, 0), (2, 2), (2, 5), (2, 5), (5, 5), (7, 8), (8, 8)),
        ((4, 4), (4, 6), (6, 6), (9, 9), (9, 9)),
        ((0, 1), (3, 4), (8, 9)),
    )

    def test_intervals(self):
        for function, row in itertools.product(FUNCTIONS, self.ROWS_OF_INTERVALS):
            for given in given_to(function):
                with self.subTest(function, row=row, given=given):
                    told = slide(function, given, row)
                    self.assertEqual(told, [aggregate(function, given[start:end]) for start, end in row])
                    self.assertIs(type(told), list)

    def test_no_values(self):
        for function in FUNCTIONS:
            self.assertEqual(slide(function, (), ()), [])
            self.assertEqual(slide(function, (), ((0, 0), (0, 0))), [aggregate(function, [])] * 2)

    def test_all_short_rows_of_intervals(self):
        given = (3, None, 1)
        pairs = list(itertools.product(range(5), repeat=2))
        for row in itertools.product(pairs, repeat=2):
            right = all(start <= end <= len(given) for start, end in row)
            right = right and row[0][0] <= row[1][0] and row[0][1] <= row[1][1]
            if right:
                self.assertEqual(slide("sum", given, row), [aggregate("sum", given[start:end]) for start, end in row])
            else:
                with self.assertRaises(BadArgument) as caught:
                    slide("sum", given, row)
                self.assertEqual(caught.exception.reason, "intervals")

    def test_intervals_that_do_not_slide(self):
        for row in (
            ((2, 1),), ((0, 5),), ((5, 5),), ((5, 4),), ((0, 1), (1, 0)), ((1, 2), (0, 2)), ((1, 3), (1, 2)),
            ((0, 1), (0, 2), (0, 5)), ((2, 2), (1, 4)), ((0, 1), (1, 2), (2, 3), (1, 4)), ((3, 4), (3, 3)),
            ((0, 4), (4, 4), (4, 3)), ((-1, 2),), ((-2, -1),),
        ):
            for function in FUNCTIONS:
                self.refused("intervals", slide, function, (4, 2, 5, 1), row)

    def test_other_functions(self):
        for function in OTHERS:
            self.refused("function", slide, function, (), ())
            self.refused("function", slide, function, (1, "a"), ((2, 1),))

    def test_texts(self):
        for function in ONLY_INTEGERS:
            self.refused("text", slide, function, ("a",), ((0, 1),))
            self.refused("text", slide, function, (1, 2, ""), ((0, 1), (1, 2)))
            self.refused("text", slide, function, (None, "b"), ())
            self.refused("text", slide, function, (1, "b"), ((2, 1),))


class CountedWindow(Window):
    """Counts how often values are added and taken away, over all windows."""

    steps = []

    def add(self, value):
        self.steps.append("add")
        Window.add(self, value)

    def drop(self):
        self.steps.append("drop")
        Window.drop(self)


class OneWindowTest(unittest.TestCase):
    def test_each_value_is_added_once_and_taken_away_once_at_most(self):
        plain = sliding.Window
        sliding.Window = CountedWindow
        try:
            for row in SlideTest.ROWS_OF_INTERVALS:
                CountedWindow.steps.clear()
                slide("median", INTEGERS, row)
                self.assertLessEqual(CountedWindow.steps.count("add"), max([end for _, end in row], default=0))
                self.assertLessEqual(CountedWindow.steps.count("drop"), CountedWindow.steps.count("add"))
        finally:
            sliding.Window = plain


class FramesSlideTest(unittest.TestCase):
    BOUNDS = (("start",), ("before", 0), ("before", 2), ("current",), ("after", 1), ("after", 9999), ("end",))
    TABLES = (
        (),
        ((1, (4,)), (2, (None,)), (3, (1,)), (4, (None,)), (5, (2,)), (6, (4,)), (7, (9,))),
        ((5, (None,)), (2, (None,))),
    )

    def test_intervals_of_frames(self):
        for rows, keys in itertools.product(self.TABLES, (((0, False),), ((0, True),), ())):
            for frame in itertools.product(("rows", "range", "groups"), self.BOUNDS, self.BOUNDS, ("nothing",)):
                if not is_right(frame, keys, ("integer",)):
                    continue
                told = tuple(intervals(rows, keys, frame))
                given = INTEGERS[:len(rows)]
                for function in FUNCTIONS:
                    self.assertEqual(
                        slide(function, given, told),
                        [aggregate(function, [given[place] for place in places])
                         for places in frame_places(rows, keys, frame)], (rows, keys, frame, function))


class InterfaceTest(unittest.TestCase):
    def test_example(self):
        window = Window("median")
        self.assertEqual(
            (window.add(4), window.add(None), window.add(1), window.told(), window.drop(), window.told(), window.size()),
            (None, None, None, 1, None, 1, 2))
        self.assertEqual(slide("least", (4, 2, 5, 1), ((0, 2), (1, 3), (3, 4))), [2, 2, 1])

    def test_names_and_arguments(self):
        self.assertEqual(list(inspect.signature(slide).parameters), ["function", "given", "intervals"])
        self.assertEqual(list(inspect.signature(Window).parameters), ["function"])
        self.assertEqual(list(inspect.signature(Window.add).parameters), ["self", "value"])
        for name in ("add", "drop", "told", "size"):
            self.assertIn(name, vars(Window))
        for thing in (slide, Window):
            self.assertEqual(thing.__module__, "windowtable.sliding")


if __name__ == "__main__":
    unittest.main()
