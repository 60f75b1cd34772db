"""Frames of the rows of a partition (c7, f1 to f5, s3)."""

import inspect
import itertools
import unittest

import model
from windowtable import frames
from windowtable.errors import BadFrame
from windowtable.frames import frame_places, intervals, is_right

UP, DOWN = ((0, False),), ((0, True),)
BOUNDS = (
    ("start",), ("before", 0), ("before", 1), ("before", 3), ("before", 9999), ("current",),
    ("after", 0), ("after", 1), ("after", 3), ("after", 9999), ("end",),
)
UNITS = ("rows", "range", "groups")
EXCLUSIONS = ("nothing", "current", "group", "ties")
FRAMES = tuple(
    frame for frame in itertools.product(UNITS, BOUNDS, BOUNDS, EXCLUSIONS)
    if frame[1] != ("end",) and frame[2] != ("start",)
)


def rows_of(*values):
    """Rows with these values in their first column, and another column with peers."""
    return tuple((number, (value, number % 2)) for number, value in enumerate(values, 1))


TABLES = (
    (),
    rows_of(5),
    rows_of(None),
    rows_of(4, 1, 4, 2, 9, 1),
    rows_of(None, 3, None, 1, 7, 4, 3),
    rows_of(None, None, None),
    rows_of(2, 2, 2, 2),
    rows_of(-3, 10 ** 9, 0, None, -1, -2),
    ((8, (1, "a")), (3, (5, None)), (40, (1, "b")), (5, (2, "a")), (1, (None, "b"))),
)


def of(rows, keys, unit, first, last, exclusion="nothing"):
    return frame_places(rows, keys, (unit, first, last, exclusion))


class RowsTest(unittest.TestCase):
    ROWS = rows_of(4, 1, 3, 2)

    def test_each_bound(self):
        for first, last, wanted in (
            (("start",), ("end",), [(0, 4), (0, 4), (0, 4), (0, 4)]),
            (("start",), ("current",), [(0, 1), (0, 2), (0, 3), (0, 4)]),
            (("current",), ("end",), [(0, 4), (1, 4), (2, 4), (3, 4)]),
            (("current",), ("current",), [(0, 1), (1, 2), (2, 3), (3, 4)]),
            (("before", 1), ("current",), [(0, 1), (0, 2), (1, 3), (2, 4)]),
            (("before", 2), ("before", 1), [(0, 0), (0, 1), (0, 2), (1, 3)]),
            (("before", 0), ("before", 0), [(0, 1), (1, 2), (2, 3), (3, 4)]),
            (("after", 0), ("after", 0), [(0, 1), (1, 2), (2, 3), (3, 4)]),
            (("after", 1), ("after", 2), [(1, 3), (2, 4), (3, 4), (4, 4)]),
            (("after", 1), ("end",), [(1, 4), (2, 4), (3, 4), (4, 4)]),
            (("start",), ("before", 3), [(0, 0), (0, 0), (0, 0), (0, 1)]),
            (("start",), ("after", 1), [(0, 2), (0, 3), (0, 4), (0, 4)]),
            (("before", 9999), ("after", 9999), [(0, 4), (0, 4), (0, 4), (0, 4)]),
            (("start",), ("before", 9999), [(0, 0), (0, 0), (0, 0), (0, 0)]),
            (("after", 9999), ("end",), [(4, 4), (4, 4), (4, 4), (4, 4)]),
            (("after", 2), ("current",), [(2, 2), (3, 3), (4, 4), (4, 4)]),
            (("current",), ("before", 1), [(0, 0), (1, 1), (2, 2), (3, 3)]),
            (("after", 2), ("after", 1), [(2, 2), (3, 3), (4, 4), (4, 4)]),
        ):
            with self.subTest(first=first, last=last):
                self.assertEqual(intervals(self.ROWS, UP, ("rows", first, last, "nothing")), wanted)
                self.assertEqual(
                    of(self.ROWS, UP, "rows", first, last), [tuple(range(start, end)) for start, end in wanted])

    def test_peers_do_not_matter(self):
        frame = ("rows", ("before", 1), ("current",), "nothing")
        self.assertEqual(intervals(rows_of(1, 1, 1), UP, frame), [(0, 1), (0, 2), (1, 3)])
        self.assertEqual(intervals(rows_of(1, 1, 1), (), frame), [(0, 1), (0, 2), (1, 3)])


class GroupsTest(unittest.TestCase):
    # In order: 1 1, 2, 5 5 5.
    ROWS = rows_of(5, 1, 5, 2, 1, 5)

    def test_each_bound(self):
        for first, last, wanted in (
            (("start",), ("end",), [(0, 6)] * 6),
            (("start",), ("current",), [(0, 2), (0, 2), (0, 3), (0, 6), (0, 6), (0, 6)]),
            (("current",), ("end",), [(0, 6), (0, 6), (2, 6), (3, 6), (3, 6), (3, 6)]),
            (("current",), ("current",), [(0, 2), (0, 2), (2, 3), (3, 6), (3, 6), (3, 6)]),
            (("before", 1), ("current",), [(0, 2), (0, 2), (0, 3), (2, 6), (2, 6), (2, 6)]),
            (("before", 0), ("after", 0), [(0, 2), (0, 2), (2, 3), (3, 6), (3, 6), (3, 6)]),
            (("before", 1), ("before", 1), [(0, 0), (0, 0), (0, 2), (2, 3), (2, 3), (2, 3)]),
            (("after", 1), ("after", 1), [(2, 3), (2, 3), (3, 6), (6, 6), (6, 6), (6, 6)]),
            (("after", 1), ("after", 9999), [(2, 6), (2, 6), (3, 6), (6, 6), (6, 6), (6, 6)]),
            (("before", 9999), ("before", 2), [(0, 0), (0, 0), (0, 0), (0, 2), (0, 2), (0, 2)]),
            (("after", 1), ("current",), [(2, 2), (2, 2), (3, 3), (6, 6), (6, 6), (6, 6)]),
        ):
            with self.subTest(first=first, last=last):
                self.assertEqual(intervals(self.ROWS, UP, ("groups", first, last, "nothing")), wanted)

    def test_without_keys_there_is_one_group(self):
        for frame, wanted in (
            (("groups", ("current",), ("current",), "nothing"), [(0, 6)] * 6),
            (("groups", ("before", 1), ("before", 1), "nothing"), [(0, 0)] * 6),
            (("groups", ("after", 1), ("end",), "nothing"), [(6, 6)] * 6),
        ):
            self.assertEqual(intervals(self.ROWS, (), frame), wanted)

    def test_texts_and_several_keys(self):
        rows = ((1, ("b", 1)), (2, ("a", 1)), (3, ("a", 2)), (4, ("a", 1)))
        frame = ("groups", ("before", 1), ("current",), "nothing")
        self.assertEqual(intervals(rows, ((0, False), (1, True)), frame), [(0, 1), (0, 3), (0, 3), (1, 4)])


class RangeTest(unittest.TestCase):
    def test_without_distances(self):
        rows = rows_of(5, 1, 5, 2, 1, 5)
        for first, last, wanted in (
            (("start",), ("end",), [(0, 6)] * 6),
            (("start",), ("current",), [(0, 2), (0, 2), (0, 3), (0, 6), (0, 6), (0, 6)]),
            (("current",), ("current",), [(0, 2), (0, 2), (2, 3), (3, 6), (3, 6), (3, 6)]),
            (("current",), ("end",), [(0, 6), (0, 6), (2, 6), (3, 6), (3, 6), (3, 6)]),
        ):
            with self.subTest(first=first, last=last):
                self.assertEqual(intervals(rows, UP, ("range", first, last, "nothing")), wanted)
                self.assertEqual(intervals(rows, (), ("range", first, last, "nothing")), [(0, 6)] * 6)

    def test_without_distances_over_texts_and_several_keys(self):
        rows = ((1, ("b", 1)), (2, ("a", 1)), (3, (None, 2)), (4, ("a", 1)))
        frame = ("range", ("start",), ("current",), "nothing")
        self.assertEqual(intervals(rows, UP, frame), [(0, 1), (0, 3), (0, 3), (0, 4)])
        self.assertEqual(intervals(rows, ((0, True), (1, False)), frame), [(0, 1), (0, 3), (0, 3), (0, 4)])

    def test_ascending(self):
        # In order: 1 1 2 4 4 9.
        rows = rows_of(4, 1, 4, 2, 9, 1)
        for first, last, wanted in (
            (("before", 2), ("current",), [(0, 2), (0, 2), (0, 3), (2, 5), (2, 5), (5, 6)]),
            (("before", 0), ("after", 0), [(0, 2), (0, 2), (2, 3), (3, 5), (3, 5), (5, 6)]),
            (("current",), ("after", 3), [(0, 5), (0, 5), (2, 5), (3, 5), (3, 5), (5, 6)]),
            (("after", 1), ("after", 3), [(2, 5), (2, 5), (3, 5), (5, 5), (5, 5), (6, 6)]),
            (("before", 3), ("before", 1), [(0, 0), (0, 0), (0, 2), (0, 3), (0, 3), (5, 5)]),
            (("start",), ("before", 1), [(0, 0), (0, 0), (0, 2), (0, 3), (0, 3), (0, 5)]),
            (("after", 5), ("end",), [(5, 6), (5, 6), (5, 6), (5, 6), (5, 6), (6, 6)]),
            (("before", 9999), ("after", 9999), [(0, 6)] * 6),
            (("after", 3), ("before", 3), [(3, 3), (3, 3), (5, 5), (5, 5), (5, 5), (6, 6)]),
        ):
            with self.subTest(first=first, last=last):
                self.assertEqual(intervals(rows, UP, ("range", first, last, "nothing")), wanted)

    def test_descending(self):
        # In order: 9 4 4 2 1 1.
        rows = rows_of(4, 1, 4, 2, 9, 1)
        for first, last, wanted in (
            (("before", 2), ("current",), [(0, 1), (1, 3), (1, 3), (1, 4), (3, 6), (3, 6)]),
            (("current",), ("after", 2), [(0, 1), (1, 4), (1, 4), (3, 6), (4, 6), (4, 6)]),
            (("before", 5), ("before", 1), [(0, 0), (0, 1), (0, 1), (1, 3), (1, 4), (1, 4)]),
            (("after", 1), ("after", 5), [(1, 3), (3, 6), (3, 6), (4, 6), (6, 6), (6, 6)]),
            (("start",), ("after", 0), [(0, 1), (0, 3), (0, 3), (0, 4), (0, 6), (0, 6)]),
        ):
            with self.subTest(first=first, last=last):
                self.assertEqual(intervals(rows, DOWN, ("range", first, last, "nothing")), wanted)

    def test_rows_with_nothing(self):
        # In order: None None 1 3; and 3 1 None None.
        rows = rows_of(None, 3, None, 1)
        for keys, first, last, wanted in (
            (UP, ("before", 2), ("current",), [(0, 2), (0, 2), (2, 3), (2, 4)]),
            (UP, ("current",), ("after", 2), [(0, 2), (0, 2), (2, 4), (3, 4)]),
            (UP, ("start",), ("before", 1), [(0, 2), (0, 2), (0, 2), (0, 3)]),
            (UP, ("after", 5), ("end",), [(0, 4), (0, 4), (4, 4), (4, 4)]),
            (UP, ("before", 9999), ("after", 9999), [(0, 2), (0, 2), (2, 4), (2, 4)]),
            (UP, ("before", 9999), ("end",), [(0, 4), (0, 4), (2, 4), (2, 4)]),
            (DOWN, ("before", 2), ("current",), [(0, 1), (0, 2), (2, 4), (2, 4)]),
            (DOWN, ("current",), ("after", 2), [(0, 2), (1, 2), (2, 4), (2, 4)]),
            (DOWN, ("start",), ("before", 1), [(0, 0), (0, 1), (0, 4), (0, 4)]),
            (DOWN, ("after", 5), ("end",), [(2, 4), (2, 4), (2, 4), (2, 4)]),
            (DOWN, ("before", 9999), ("after", 9999), [(0, 2), (0, 2), (2, 4), (2, 4)]),
            (DOWN, ("start",), ("after", 9999), [(0, 2), (0, 2), (0, 4), (0, 4)]),
        ):
            with self.subTest(keys=keys, first=first, last=last):
                self.assertEqual(intervals(rows, keys, ("range", first, last, "nothing")), wanted)

    def test_only_nothing(self):
        for keys in (UP, DOWN):
            for first, last in ((("before", 1), ("after", 1)), (("after", 3), ("before", 3))):
                told = intervals(rows_of(None, None), keys, ("range", first, last, "nothing"))
                self.assertEqual(told, [(0, 2), (0, 2)])


class ExclusionsTest(unittest.TestCase):
    # In order: 1 1 2.
    ROWS = rows_of(1, 2, 1)

    def test_each(self):
        for exclusion, wanted in (
            ("nothing", [(0, 1, 2), (0, 1, 2), (0, 1, 2)]),
            ("current", [(1, 2), (0, 2), (0, 1)]),
            ("group", [(2,), (2,), (0, 1)]),
            ("ties", [(0, 2), (1, 2), (0, 1, 2)]),
        ):
            for unit in UNITS:
                with self.subTest(exclusion, unit=unit):
                    self.assertEqual(of(self.ROWS, UP, unit, ("start",), ("end",), exclusion), wanted)

    def test_without_keys_all_are_peers(self):
        self.assertEqual(of(self.ROWS, (), "rows", ("start",), ("end",), "group"), [(), (), ()])
        self.assertEqual(of(self.ROWS, (), "rows", ("start",), ("end",), "ties"), [(0,), (1,), (2,)])

    def test_the_row_itself_outside_of_its_frame(self):
        self.assertEqual(of(self.ROWS, UP, "rows", ("after", 1), ("end",), "current"), [(1, 2), (2,), ()])
        self.assertEqual(of(self.ROWS, UP, "rows", ("after", 1), ("end",), "ties"), [(2,), (2,), ()])
        self.assertEqual(of(self.ROWS, UP, "rows", ("start",), ("before", 1), "group"), [(), (), (0, 1)])

    def test_intervals_are_told_ahead_of_exclusions(self):
        for exclusion in EXCLUSIONS:
            self.assertEqual(
                intervals(self.ROWS, UP, ("rows", ("current",), ("current",), exclusion)), [(0, 1), (1, 2), (2, 3)])


class ModelTest(unittest.TestCase):
    def test_every_frame_over_every_table(self):
        for rows, keys in itertools.product(TABLES, (UP, DOWN, (), ((1, False),), ((1, True), (0, False)))):
            line = model.order(rows, keys)
            kinds = tuple(
                "text" if any(isinstance(cells[number], str) for _, cells in rows) else "integer" for number in (0, 1))
            for frame in FRAMES:
                if not is_right(frame, keys, kinds):
                    continue
                told = intervals(rows[::-1], keys, frame)
                wanted = [model.interval(line, keys, frame, place) for place in range(len(line))]
                self.assertEqual(told, [(start, max(start, end)) for start, end in wanted], (rows, keys, frame))
                self.assertEqual(
                    frame_places(rows, keys, frame),
                    [model.frame(line, keys, frame, place) for place in range(len(line))], (rows, keys, frame))

    def test_intervals_never_go_back(self):
        for rows, keys in itertools.product(TABLES, (UP, DOWN, ())):
            for frame in FRAMES:
                if is_right(frame, keys, ("integer", "text")):
                    told = intervals(rows, keys, frame)
                    for (start, end), (next_start, next_end) in zip(told, told[1:]):
                        self.assertLessEqual(start, next_start, (rows, keys, frame))
                        self.assertLessEqual(end, next_end, (rows, keys, frame))
                    for start, end in told:
                        self.assertTrue(0 <= start <= end <= len(rows), (rows, keys, frame))

    def test_no_rows(self):
        for keys in (UP, DOWN, (), ((1, True), (0, False))):
            for frame in FRAMES:
                if is_right(frame, keys, ("integer", "integer")):
                    self.assertEqual(intervals((), keys, frame), [])
                    self.assertEqual(frame_places((), keys, frame), [])


class IsRightTest(unittest.TestCase):
    KINDS = ("integer", "text", "integer")

    def test_wrong_whatever_the_keys(self):
        for unit, bound, exclusion in itertools.product(UNITS, BOUNDS, EXCLUSIONS):
            for keys in ((), UP, ((1, True),), ((0, False), (1, False))):
                self.assertIs(is_right((unit, ("end",), bound, exclusion), keys, self.KINDS), False)
                self.assertIs(is_right((unit, bound, ("start",), exclusion), keys, self.KINDS), False)

    def test_rows_and_groups_are_right_for_all_keys(self):
        for frame in FRAMES:
            if frame[0] != "range":
                for keys in ((), UP, ((1, True),), ((0, False), (1, False), (2, True))):
                    self.assertIs(is_right(frame, keys, self.KINDS), True)

    def test_range_without_a_distance(self):
        for first, last in itertools.product((("start",), ("current",)), (("current",), ("end",))):
            for keys in ((), UP, ((1, True),), ((0, False), (1, False), (2, True))):
                self.assertIs(is_right(("range", first, last, "nothing"), keys, self.KINDS), True)

    def test_range_with_a_distance(self):
        for first, last in (
            (("before", 1), ("current",)), (("start",), ("before", 0)), (("after", 0), ("end",)),
            (("current",), ("after", 9999)), (("before", 1), ("after", 1)), (("after", 5), ("before", 5)),
        ):
            for exclusion in EXCLUSIONS:
                frame = ("range", first, last, exclusion)
                with self.subTest(frame=frame):
                    self.assertIs(is_right(frame, UP, self.KINDS), True)
                    self.assertIs(is_right(frame, ((2, True),), self.KINDS), True)
                    self.assertIs(is_right(frame, (), self.KINDS), False)
                    self.assertIs(is_right(frame, ((1, False),), self.KINDS), False)
                    self.assertIs(is_right(frame, ((1, True),), self.KINDS), False)
                    self.assertIs(is_right(frame, ((0, False), (2, False)), self.KINDS), False)
                    self.assertIs(is_right(frame, ((0, False), (0, False)), self.KINDS), False)
                    self.assertIs(is_right(frame, ((0, False), (1, False), (2, False)), self.KINDS), False)


class BadFrameTest(unittest.TestCase):
    def refused(self, rows, keys, frame):
        for function in (intervals, frame_places):
            with self.subTest(function.__name__, keys=keys, frame=frame), self.assertRaises(BadFrame) as caught:
                function(rows, keys, frame)
            self.assertIs(type(caught.exception), BadFrame)

    def test_end_and_start(self):
        for rows in ((), rows_of(1, 2), rows_of(None)):
            for unit in UNITS:
                self.refused(rows, UP, (unit, ("end",), ("end",), "nothing"))
                self.refused(rows, UP, (unit, ("start",), ("start",), "nothing"))
                self.refused(rows, (), (unit, ("end",), ("start",), "ties"))

    def test_distances_without_just_one_key(self):
        for rows in ((), rows_of(1, 2)):
            for frame in (("range", ("before", 1), ("current",), "nothing"), ("range", ("start",), ("after", 0), "ties")):
                self.refused(rows, (), frame)
                self.refused(rows, ((0, False), (1, False)), frame)

    def test_a_column_with_a_text(self):
        frame = ("range", ("before", 1), ("current",), "nothing")
        self.refused(((1, ("a",)), (2, ("b",))), UP, frame)
        self.refused(((1, (None,)), (2, ("",)), (3, (None,))), DOWN, frame)
        self.refused(((1, (5,)), (2, ("a",))), UP, frame)
        self.assertEqual(intervals(((1, (5, "a")), (2, (None, "b"))), UP, frame), [(0, 1), (1, 2)])

    def test_no_row_has_a_text(self):
        frame = ("range", ("before", 1), ("current",), "nothing")
        self.assertEqual(intervals(((1, (None,)),), UP, frame), [(0, 1)])
        self.assertEqual(intervals((), UP, frame), [])


class InterfaceTest(unittest.TestCase):
    def test_example(self):
        rows, keys = ((1, (1,)), (2, (2,)), (3, (2,)), (4, (5,))), ((0, False),)
        self.assertEqual(
            frame_places(rows, keys, ("range", ("before", 3), ("current",), "nothing")),
            [(0,), (0, 1, 2), (0, 1, 2), (1, 2, 3)])
        self.assertEqual(
            frame_places(rows, keys, ("groups", ("before", 1), ("current",), "ties")),
            [(0,), (0, 1), (0, 2), (1, 2, 3)])

    def test_functions_with_their_arguments(self):
        wanted = {
            "is_right": ["frame", "keys", "kinds"], "intervals": ["rows", "keys", "frame"],
            "frame_places": ["rows", "keys", "frame"],
        }
        for name, arguments in wanted.items():
            with self.subTest(name):
                function = getattr(frames, name)
                self.assertEqual(list(inspect.signature(function).parameters), arguments)
                self.assertEqual(function.__module__, "windowtable.frames")

    def test_shapes(self):
        frame = ("rows", ("start",), ("end",), "nothing")
        for told in (intervals(rows_of(1, 2), UP, frame), frame_places(rows_of(1, 2), UP, frame)):
            self.assertIs(type(told), list)
            self.assertEqual({type(item) for item in told}, {tuple})


if __name__ == "__main__":
    unittest.main()
