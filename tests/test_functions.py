"""Values of functions (g1)."""

import inspect
import itertools
import unittest

import model
from windowtable import functions
from windowtable.errors import BadArgument
from windowtable.frames import is_right
from windowtable.functions import aggregate, tiles, window_value

AGGREGATES = ("size", "count", "different", "sum", "least", "greatest", "median", "first", "last")
ONLY_INTEGERS = ("sum", "median")
USUAL = ("range", ("start",), ("current",), "nothing")
WHOLE = ("rows", ("start",), ("end",), "nothing")
UP, DOWN = ((0, False),), ((0, True),)


def definition_of(function, number=None, frame=USUAL):
    return ("t", function, None, number, (), (), frame)


class AggregateTest(unittest.TestCase):
    def check(self, values, **wanted):
        for function in AGGREGATES:
            if function in wanted:
                for given in (list(values), tuple(values)):
                    with self.subTest(function, values=given):
                        told = aggregate(function, given)
                        self.assertEqual(told, wanted[function])
                        self.assertIs(type(told), type(wanted[function]))

    def test_integers(self):
        self.check([5, 2, 9, 2], size=4, count=4, different=3, sum=18, least=2, greatest=9, median=2, first=5, last=2)
        self.check([7], size=1, count=1, different=1, sum=7, least=7, greatest=7, median=7, first=7, last=7)
        self.check([-3, 3], size=2, count=2, different=2, sum=0, least=-3, greatest=3, median=-3, first=-3, last=3)
        self.check([0, 0, 0], size=3, count=3, different=1, sum=0, least=0, greatest=0, median=0, first=0, last=0)
        big = 10 ** 30
        self.check([big, 1, -big], different=3, sum=1, least=-big, greatest=big, median=1, first=big, last=-big)
        self.check([9, 10, -2, -11], least=-11, greatest=10, median=-2, sum=6)

    def test_texts(self):
        self.check(["b", "", "ab", "b"], size=4, count=4, different=3, least="", greatest="b", first="b", last="b")
        self.check(["ab", "a", "abc"], size=3, count=3, different=3, least="a", greatest="abc", first="ab", last="abc")

    def test_nothing_among_them(self):
        self.check([None, 4, None, 1, 4], size=5, count=3, different=2, sum=9, least=1, greatest=4, median=4,
                   first=None, last=4)
        self.check([3, None], size=2, count=1, different=1, sum=3, least=3, greatest=3, median=3, first=3, last=None)
        self.check(["x", None, "a"], size=3, count=2, different=2, least="a", greatest="x", first="x", last="a")

    def test_no_value_at_all(self):
        self.check([], size=0, count=0, different=0, sum=None, least=None, greatest=None, median=None, first=None,
                   last=None)

    def test_only_nothing(self):
        self.check([None, None], size=2, count=0, different=0, sum=None, least=None, greatest=None, median=None,
                   first=None, last=None)

    def test_integers_and_texts(self):
        self.check(["a", 1, None, 7, "", 1], size=6, count=5, different=4, least=1, greatest="a", first="a", last=1)

    def test_median_of_even_and_odd_numbers_of_values(self):
        for values, wanted in (
            ([1], 1), ([2, 1], 1), ([3, 1, 2], 2), ([4, 1, 3, 2], 2), ([5, 3, 1, 4, 2], 3), ([6, 5, 4, 3, 2, 1], 3),
            ([None, 2, None, 1, None], 1), ([1, 1, 1, 5], 1), ([1, 5, 5, 5], 5), ([10, 9, 100], 10),
        ):
            with self.subTest(values=values):
                self.assertEqual(aggregate("median", values), wanted)

    def test_against_the_model(self):
        for values in itertools.chain.from_iterable(
                itertools.product((None, -1, 0, 3, "", "b"), repeat=many) for many in range(5)):
            for function in AGGREGATES:
                if function not in ONLY_INTEGERS or not any(isinstance(value, str) for value in values):
                    self.assertEqual(aggregate(function, values), model.of_values(function, values), (function, values))

    def test_other_functions(self):
        for function in ("number", "rank", "dense", "tile", "lag", "lead", "nth", "", "over", "Sum", "sums", "x", "mean"):
            for values in ([], [1], ["a"], [None]):
                with self.subTest(function, values=values), self.assertRaises(BadArgument) as caught:
                    aggregate(function, values)
                self.assertIs(type(caught.exception), BadArgument)
                self.assertEqual(caught.exception.reason, "function")

    def test_texts_where_there_are_only_integers(self):
        for function in ONLY_INTEGERS:
            for values in (["a"], [""], [1, "a"], [None, "b", 2], [1, 2, 3, "z"]):
                with self.subTest(function, values=values), self.assertRaises(BadArgument) as caught:
                    aggregate(function, values)
                self.assertIs(type(caught.exception), BadArgument)
                self.assertEqual(caught.exception.reason, "text")

    def test_arguments_stay(self):
        values = [3, None, 1, 2]
        for function in AGGREGATES:
            aggregate(function, values)
        self.assertEqual(values, [3, None, 1, 2])


class TilesTest(unittest.TestCase):
    def test_told(self):
        for size, count, wanted in (
            (0, 1, []), (0, 5, []), (1, 1, [1]), (4, 1, [1, 1, 1, 1]), (6, 3, [1, 1, 2, 2, 3, 3]),
            (7, 3, [1, 1, 1, 2, 2, 3, 3]), (8, 3, [1, 1, 1, 2, 2, 2, 3, 3]), (3, 3, [1, 2, 3]),
            (2, 3, [1, 2]), (3, 9999, [1, 2, 3]), (5, 4, [1, 1, 2, 3, 4]), (16, 5, [1] * 4 + [2] * 3 + [3] * 3 + [4] * 3
                                                                              + [5] * 3),
        ):
            with self.subTest(size=size, count=count):
                self.assertEqual(tiles(size, count), wanted)

    def test_sizes(self):
        for size, count in itertools.product(range(20), range(1, 22)):
            told = tiles(size, count)
            many = [told.count(tile) for tile in range(1, count + 1)]
            self.assertEqual(told, sorted(told))
            self.assertEqual(sum(many), size)
            self.assertEqual(many, sorted(many, reverse=True))
            self.assertLessEqual(many[0] - many[-1], 1)


class WindowValueTest(unittest.TestCase):
    # In order by the first column: 5, 2, then the peers 4 and 9, then 1.
    ROWS = ((9, (3, "b")), (1, (7, "c")), (5, (None, "a")), (4, (3, None)), (2, (1, "b")))

    def values(self, function, number=None, frame=USUAL, column=0, keys=UP):
        """The values of the rows, by their places in order."""
        line = [row_id for row_id, _ in model.order(self.ROWS, keys)]
        definition = definition_of(function, number, frame)
        return [window_value(self.ROWS, keys, definition, column, row_id) for row_id in line]

    def test_places(self):
        self.assertEqual(self.values("number", column=None), [1, 2, 3, 4, 5])
        self.assertEqual(self.values("rank", column=None), [1, 2, 3, 3, 5])
        self.assertEqual(self.values("dense", column=None), [1, 2, 3, 3, 4])
        self.assertEqual(self.values("number", column=None, keys=DOWN), [1, 2, 3, 4, 5])
        self.assertEqual(self.values("rank", column=None, keys=DOWN), [1, 2, 2, 4, 5])
        self.assertEqual(self.values("dense", column=None, keys=DOWN), [1, 2, 2, 3, 4])
        self.assertEqual(self.values("rank", column=None, keys=()), [1] * 5)
        self.assertEqual(self.values("dense", column=None, keys=()), [1] * 5)
        self.assertEqual(self.values("tile", 2, column=None), [1, 1, 1, 2, 2])
        self.assertEqual(self.values("tile", 3, column=None), [1, 1, 2, 2, 3])
        self.assertEqual(self.values("tile", 9, column=None), [1, 2, 3, 4, 5])

    def test_lag_and_lead(self):
        self.assertEqual(self.values("lag", 0), [None, 1, 3, 3, 7])
        self.assertEqual(self.values("lag", 1), [None, None, 1, 3, 3])
        self.assertEqual(self.values("lag", 2, column=1), [None, None, "a", "b", None])
        self.assertEqual(self.values("lag", 4, column=1), [None, None, None, None, "a"])
        self.assertEqual(self.values("lag", 5, column=1), [None] * 5)
        self.assertEqual(self.values("lag", 9999), [None] * 5)
        self.assertEqual(self.values("lead", 0, column=1), ["a", "b", None, "b", "c"])
        self.assertEqual(self.values("lead", 1), [1, 3, 3, 7, None])
        self.assertEqual(self.values("lead", 4), [7, None, None, None, None])
        self.assertEqual(self.values("lead", 5), [None] * 5)
        self.assertEqual(self.values("lead", 9999), [None] * 5)

    def test_frames(self):
        self.assertEqual(self.values("sum"), [None, 1, 7, 7, 14])
        self.assertEqual(self.values("size", column=None), [1, 2, 4, 4, 5])
        self.assertEqual(self.values("count", column=1), [1, 2, 3, 3, 4])
        self.assertEqual(self.values("different", column=1, frame=WHOLE), [3] * 5)
        self.assertEqual(self.values("sum", frame=("range", ("before", 2), ("current",), "nothing")), [None, 1, 7, 7, 7])
        self.assertEqual(self.values("sum", frame=("rows", ("before", 1), ("after", 1), "current")), [1, 3, 4, 10, 3])
        self.assertEqual(self.values("sum", frame=("groups", ("before", 1), ("current",), "group")),
                         [None, None, 1, 1, 6])
        self.assertEqual(self.values("greatest", column=1, frame=("rows", ("current",), ("end",), "nothing")),
                         ["c"] * 5)
        self.assertEqual(self.values("least", column=1, frame=("rows", ("before", 1), ("current",), "ties")),
                         ["a", "a", "b", "b", "b"])

    def test_first_last_and_nth(self):
        back = ("rows", ("before", 1), ("current",), "nothing")
        self.assertEqual(self.values("first", column=1, frame=back), ["a", "a", "b", None, "b"])
        self.assertEqual(self.values("last", column=1, frame=back), ["a", "b", None, "b", "c"])
        self.assertEqual(self.values("nth", 1, column=1, frame=back), ["a", "a", "b", None, "b"])
        self.assertEqual(self.values("nth", 2, column=1, frame=back), [None, "b", None, "b", "c"])
        self.assertEqual(self.values("nth", 3, column=1, frame=back), [None] * 5)
        self.assertEqual(self.values("nth", 4, frame=WHOLE), [3] * 5)
        self.assertEqual(self.values("nth", 5, frame=WHOLE), [7] * 5)
        self.assertEqual(self.values("nth", 6, frame=WHOLE), [None] * 5)
        self.assertEqual(self.values("nth", 9999, frame=WHOLE), [None] * 5)

    def test_empty_frames(self):
        empty = ("rows", ("after", 1), ("before", 1), "nothing")
        for function in ("sum", "least", "greatest", "median", "first", "last"):
            self.assertEqual(self.values(function, frame=empty), [None] * 5)
        self.assertEqual(self.values("nth", 1, frame=empty), [None] * 5)
        for function in ("count", "different"):
            self.assertEqual(self.values(function, frame=empty), [0] * 5)
        self.assertEqual(self.values("size", frame=empty, column=None), [0] * 5)

    def test_a_frame_has_no_effect_on_functions_by_places(self):
        wrong = ("range", ("before", 1), ("start",), "nothing")
        for function, number in (("number", None), ("rank", None), ("dense", None), ("tile", 2), ("lag", 1), ("lead", 2)):
            column = 1 if function in ("lag", "lead") else None
            wanted = self.values(function, number, column=column)
            for frame in (WHOLE, ("groups", ("after", 3), ("after", 1), "group"), wrong):
                with self.subTest(function, frame=frame):
                    self.assertEqual(self.values(function, number, frame, column), wanted)


class ModelTest(unittest.TestCase):
    HEADS = (
        ("number", None), ("rank", None), ("dense", None), ("tile", 1), ("tile", 3), ("lag", 0), ("lag", 2), ("lead", 1),
        ("nth", 1), ("nth", 3), *((function, None) for function in AGGREGATES),
    )
    BOUNDS = (("start",), ("before", 0), ("before", 2), ("current",), ("after", 1), ("after", 4), ("end",))
    TABLES = (
        ((3, (5, "a", 1)),),
        ((3, (None, None, 1)), (1, (4, "b", 2))),
        tuple((row_id, (value, text, other)) for row_id, value, text, other in (
            (7, 2, "b", 3), (1, None, "a", 3), (12, 5, "", 1), (3, 2, None, None), (2, 4, "b", 1), (9, None, "ab", -2))),
    )

    def test_every_function_over_frames_of_all_kinds(self):
        frames = [
            frame for frame in itertools.product(
                ("rows", "range", "groups"), self.BOUNDS, self.BOUNDS, ("nothing", "current", "group", "ties"))
        ]
        for rows, keys in itertools.product(self.TABLES, (UP, DOWN, (), ((2, True), (1, False)))):
            right = [frame for frame in frames if is_right(frame, keys, ("integer", "text", "integer"))]
            # Each frame goes with several functions, each function with many frames.
            for number, (frame, (function, count)) in enumerate(itertools.product(right, self.HEADS)):
                if number % 5 == len(rows) % 5:
                    continue
                column = None if function in ("number", "rank", "dense", "tile", "size") else number % 3
                if function in ONLY_INTEGERS:
                    column = 2 * (number % 2)
                definition = definition_of(function, count, frame)
                row_id = rows[number % len(rows)][0]
                told = window_value(rows[::-1] if number % 2 else rows, keys, definition, column, row_id)
                wanted = model.value(rows, keys, definition, column, row_id)
                self.assertEqual(told, wanted, (rows, keys, definition, column, row_id))


class InterfaceTest(unittest.TestCase):
    def test_functions_with_their_arguments(self):
        # The rules for the code bar `id` as a parameter (L15, L17), so the last one of window_value is called row_id.
        wanted = {
            "aggregate": ["function", "values"], "tiles": ["size", "count"],
            "window_value": ["rows", "keys", "definition", "column", "row_id"],
        }
        for name, arguments in wanted.items():
            with self.subTest(name):
                function = getattr(functions, name)
                self.assertEqual(list(inspect.signature(function).parameters), arguments)
                self.assertEqual(function.__module__, "windowtable.functions")

    def test_what_is_returned_is_new(self):
        tiles(4, 2).clear()
        self.assertEqual(tiles(4, 2), [1, 1, 2, 2])


if __name__ == "__main__":
    unittest.main()
