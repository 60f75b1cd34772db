"""Merging: clashes, lists turned behind each other, merged rows (x1 to x3)."""

import copy
import inspect
import itertools
import random
import unittest

from windowtable import merging as merging_file
from windowtable.changes import apply, between, inverse, is_canonical
from windowtable.errors import BadFit
from windowtable.merging import clashes, merged, turned

ROWS = ((1, (5, "a")), (2, (7, "b")))
SIDES = ("left", "right")
# What a row can be: not there, or with two cells.
STATES = (None, *itertools.product((1, 2, None), repeat=2))


def one_row(cells):
    return () if cells is None else ((4, cells),)


def both_ways(rows, left, right, side):
    """The rows behind left and right turned behind it, and behind right and left turned behind it."""
    one = apply(apply(rows, left), turned(right, left, rows, side, "right"))
    other = apply(apply(rows, right), turned(left, right, rows, side, "left"))
    return one, other


class ClashesTest(unittest.TestCase):
    def check(self, left, right, wanted):
        with self.subTest(left=left, right=right):
            told = clashes(left, right)
            self.assertEqual(told, wanted)
            self.assertIs(type(told), list)
            self.assertEqual(clashes(right, left), wanted)

    def test_each_kind(self):
        for left, right, wanted in (
            ([], [], []),
            ([("set", 1, 0, 5, 6)], [], []),
            # Both set it, to unlike values.
            ([("set", 1, 0, 5, 6)], [("set", 1, 0, 5, 7)], [(1, 0)]),
            ([("set", 1, 0, 5, None)], [("set", 1, 0, 5, 7)], [(1, 0)]),
            ([("set", 1, 0, None, 0)], [("set", 1, 0, None, "")], [(1, 0)]),
            ([("set", 1, 0, 5, 6)], [("set", 1, 0, 5, 6)], []),
            ([("set", 1, 0, 5, None)], [("set", 1, 0, 5, None)], []),
            ([("set", 1, 0, 5, 6)], [("set", 1, 1, 5, 7)], []),
            ([("set", 1, 0, 5, 6)], [("set", 2, 0, 5, 7)], []),
            ([("set", 1, 0, 5, 6), ("set", 1, 1, 5, 6), ("set", 1, 2, 5, 6)],
             [("set", 1, 0, 5, 7), ("set", 1, 1, 5, 6), ("set", 1, 2, 5, 8)], [(1, 0), (1, 2)]),
            # One removes it, the other one sets cells of it.
            ([("remove", 1, (5, 5))], [("set", 1, 0, 5, 7)], [(1, None)]),
            ([("remove", 1, (5, 5))], [("set", 1, 0, 5, 7), ("set", 1, 1, 5, 7)], [(1, None)]),
            ([("remove", 1, (5, 5))], [("remove", 1, (5, 5))], []),
            ([("remove", 1, (5, 5))], [("remove", 2, (5, 5))], []),
            # Both insert it.
            ([("insert", 1, (5, 5))], [("insert", 1, (5, 6))], [(1, None)]),
            ([("insert", 1, (5, None))], [("insert", 1, (5, 6))], [(1, None)]),
            ([("insert", 1, (5, 5))], [("insert", 1, (5, 5))], []),
            ([("insert", 1, (5, 5))], [("insert", 2, (5, 6))], []),
        ):
            self.check(left, right, wanted)

    def test_in_order(self):
        left = [("insert", 1, (1,)), ("set", 2, 0, 1, 2), ("set", 2, 3, 1, 2), ("remove", 3, (1,)), ("set", 5, 1, 1, 2),
                ("remove", 9, (1,)), ("set", 10, 0, 1, 2), ("set", 11, 9, 0, 1), ("set", 11, 10, 0, 1)]
        right = [("insert", 1, (2,)), ("set", 2, 0, 1, 3), ("set", 2, 3, 1, 3), ("set", 3, 0, 1, 2), ("remove", 5, (1,)),
                 ("remove", 9, (1,)), ("set", 10, 0, 1, 3), ("set", 11, 9, 0, 2), ("set", 11, 10, 0, 2), ("remove", 20, (1,))]
        self.check(left, right, [(1, None), (2, 0), (2, 3), (3, None), (5, None), (10, 0), (11, 9), (11, 10)])


class TurnedTest(unittest.TestCase):
    def check(self, left, right, rows, own, wanted_stands, wanted_not):
        """Holds left turned behind right, if left is the one that own tells, for both sides."""
        for side in SIDES:
            with self.subTest(left=left, right=right, own=own, side=side):
                told = turned(left, right, rows, side, own)
                self.assertEqual(told, wanted_stands if side == own else wanted_not)
                self.assertIs(type(told), list)
                self.assertTrue(is_canonical(told))

    def test_each_case(self):
        rows = ((1, (5, "a", None)), (2, (7, "b", 1)))
        for left, right, wanted_stands, wanted_not in (
            # What right does not touch stays.
            ([("set", 1, 0, 5, 6)], [], [("set", 1, 0, 5, 6)], None),
            ([("set", 1, 0, 5, 6)], [("set", 1, 1, "a", "b")], [("set", 1, 0, 5, 6)], None),
            ([("set", 1, 0, 5, 6)], [("remove", 2, (7, "b", 1))], [("set", 1, 0, 5, 6)], None),
            ([("remove", 1, (5, "a", None))], [("set", 2, 0, 7, 8)], [("remove", 1, (5, "a", None))], None),
            ([("insert", 3, (1, "c", 1))], [("insert", 4, (1, "d", 1))], [("insert", 3, (1, "c", 1))], None),
            # What right makes just so is left out.
            ([("set", 1, 0, 5, 6)], [("set", 1, 0, 5, 6)], [], None),
            ([("set", 1, 0, 5, 6), ("set", 1, 1, "a", "z")], [("set", 1, 0, 5, 6)], [("set", 1, 1, "a", "z")], None),
            ([("insert", 3, (1, "c", 1))], [("insert", 3, (1, "c", 1))], [], None),
            ([("remove", 1, (5, "a", None))], [("remove", 1, (5, "a", None))], [], None),
            # Where they clash.
            ([("set", 1, 0, 5, 6)], [("set", 1, 0, 5, 8)], [("set", 1, 0, 8, 6)], []),
            ([("set", 1, 0, 5, None)], [("set", 1, 0, 5, 8)], [("set", 1, 0, 8, None)], []),
            ([("set", 1, 2, None, 6)], [("set", 1, 2, None, 8)], [("set", 1, 2, 8, 6)], []),
            ([("set", 1, 0, 5, 6), ("set", 1, 1, "a", "b"), ("set", 1, 2, None, 3)],
             [("set", 1, 0, 5, 8), ("set", 1, 2, None, 3)],
             [("set", 1, 0, 8, 6), ("set", 1, 1, "a", "b")], [("set", 1, 1, "a", "b")]),
            ([("set", 1, 0, 5, 6)], [("remove", 1, (5, "a", None))], [("insert", 1, (6, "a", None))], []),
            ([("set", 1, 0, 5, 6), ("set", 1, 2, None, 2)], [("remove", 1, (5, "a", None))], [("insert", 1, (6, "a", 2))], []),
            ([("remove", 1, (5, "a", None))], [("set", 1, 0, 5, 6)], [("remove", 1, (6, "a", None))], []),
            ([("remove", 1, (5, "a", None))], [("set", 1, 0, 5, 6), ("set", 1, 2, None, 9)], [("remove", 1, (6, "a", 9))], []),
            ([("insert", 3, (1, "c", 1))], [("insert", 3, (1, "d", None))], [("set", 3, 1, "d", "c"), ("set", 3, 2, None, 1)], []),
            ([("insert", 3, (1, "c", 1))], [("insert", 3, (2, "d", 2))],
             [("set", 3, 0, 2, 1), ("set", 3, 1, "d", "c"), ("set", 3, 2, 2, 1)], []),
            # More than one row.
            ([("set", 1, 0, 5, 6), ("remove", 2, (7, "b", 1)), ("insert", 3, (1, "c", 1))],
             [("remove", 1, (5, "a", None)), ("set", 2, 1, "b", "y"), ("insert", 3, (1, "c", 2))],
             [("insert", 1, (6, "a", None)), ("remove", 2, (7, "y", 1)), ("set", 3, 2, 2, 1)], []),
        ):
            for own in SIDES:
                for some in (rows, rows[::-1]):
                    self.check(left, right, some, own, wanted_stands, wanted_stands if wanted_not is None else wanted_not)

    def test_example_of_the_document(self):
        left = [("set", 1, 0, 5, 6), ("remove", 2, (7, "b"))]
        right = [("set", 1, 0, 5, 8), ("set", 1, 1, "a", "c"), ("set", 2, 0, 7, 9)]
        self.assertEqual(clashes(left, right), [(1, 0), (2, None)])
        self.assertEqual(turned(left, right, ROWS, "left", "left"), [("set", 1, 0, 8, 6), ("remove", 2, (9, "b"))])
        self.assertEqual(turned(left, right, ROWS, "right", "left"), [])
        self.assertEqual(turned(right, left, ROWS, "left", "right"), [("set", 1, 1, "a", "c")])
        self.assertEqual(turned(right, left, ROWS, "right", "right"),
                         [("set", 1, 0, 6, 8), ("set", 1, 1, "a", "c"), ("insert", 2, (9, "b"))])
        self.assertEqual(merged(ROWS, left, right, "left"), ((1, (6, "c")),))
        self.assertEqual(merged(ROWS, left, right, "right"), ((1, (8, "c")), (2, (9, "b"))))

    def test_with_itself_and_the_empty_list(self):
        for states in itertools.product(STATES, repeat=2):
            rows, others = map(one_row, states)
            changes = between(rows, others)
            for side, own in itertools.product(SIDES, repeat=2):
                self.assertEqual(turned(changes, changes, rows, side, own), [])
                self.assertEqual(turned(changes, [], rows, side, own), changes)
                self.assertEqual(turned([], changes, rows, side, own), [])
                self.assertEqual(clashes(changes, changes), [])
                self.assertEqual(merged(rows, changes, changes, side), others)
                self.assertEqual(merged(rows, changes, [], side), others)
                self.assertEqual(merged(rows, [], changes, side), others)
                self.assertEqual(merged(rows, [], [], side), rows)

    def test_what_is_turned_is_new(self):
        left, right = [("set", 1, 0, 5, 6)], [("remove", 2, (7, "b"))]
        told = turned(left, right, ROWS, "left", "left")
        told.append("more")
        self.assertEqual(left, [("set", 1, 0, 5, 6)])
        self.assertEqual(turned(left, [], ROWS, "left", "left"), [("set", 1, 0, 5, 6)])

    def test_arguments_stay_as_they_were(self):
        left = [("set", 1, 0, 5, 6), ("remove", 2, (7, "b"))]
        right = [("set", 1, 0, 5, 8), ("set", 1, 1, "a", "c"), ("set", 2, 0, 7, 9)]
        before = copy.deepcopy((left, right, ROWS))
        for side, own in itertools.product(SIDES, repeat=2):
            turned(left, right, ROWS, side, own)
            merged(ROWS, left, right, side)
            clashes(left, right)
        self.assertEqual((left, right, ROWS), before)


class BothWaysTest(unittest.TestCase):
    def check(self, rows, one, other):
        left, right = between(rows, one), between(rows, other)
        together = []
        for side in SIDES:
            first, second = both_ways(rows, left, right, side)
            self.assertEqual(first, second, (rows, one, other, side))
            self.assertEqual(merged(rows, left, right, side), first)
            self.assertEqual(merged(rows, right, left, "right" if side == "left" else "left"), first)
            for told in (turned(left, right, rows, side, "left"), turned(right, left, rows, side, "right")):
                self.assertTrue(is_canonical(told))
            together.append(first)
        self.assertEqual(together[0] == together[1], clashes(left, right) == [])
        return together

    def wanted(self, ahead, one, other, stands):
        """The cells of a merged row, where those of one of both stand in a clash; written down once more."""
        if one == other:
            return one
        if ahead == one:
            return other
        if ahead == other:
            return one
        winner = one if stands == "left" else other
        if None in (ahead, one, other):
            return winner
        loser = other if stands == "left" else one
        return tuple(w if w != a else b for a, w, b in zip(ahead, winner, loser))

    def test_all_states_of_a_row(self):
        for states in itertools.product(STATES, repeat=3):
            told = self.check(*[one_row(cells) for cells in states])
            self.assertEqual(told, [one_row(self.wanted(*states, side)) for side in SIDES], states)

    def test_more_rows(self):
        dice = random.Random(4)
        for _ in range(1500):
            table = [[dice.choice(STATES) if dice.random() < 0.7 else None for _ in range(6)] for _ in range(3)]
            # Rows are often the same, as they are between versions.
            for line in table[1:]:
                for place in range(6):
                    if dice.random() < 0.4:
                        line[place] = table[0][place]
            rows, one, other = [tuple((i + 1, cells) for i, cells in enumerate(line) if cells is not None) for line in table]
            told = self.check(rows[::-1], one, other)
            for side, rows_told in zip(SIDES, told):
                cells = [self.wanted(*row, side) for row in zip(*table)]
                self.assertEqual(rows_told, tuple((i + 1, row) for i, row in enumerate(cells) if row is not None))

    def test_back_from_merged_rows(self):
        rows, one, other = ROWS, ((1, (6, "a")),), ((1, (5, "c")), (2, (7, "b")), (3, (0, "d")))
        left, right = between(rows, one), between(rows, other)
        behind = turned(right, left, rows, "left", "right")
        together = merged(rows, left, right, "left")
        self.assertEqual(together, ((1, (6, "c")), (3, (0, "d"))))
        self.assertEqual(apply(apply(together, inverse(behind)), inverse(left)), rows)


class RefusedTest(unittest.TestCase):
    RIGHT = [("set", 1, 0, 5, 6), ("insert", 3, (1, "c"))]
    WRONG = (
        [("insert", 1, (5, "a"))],
        [("insert", 4, (5,))],
        [("insert", 4, (5, "a", 1))],
        [("remove", 1, (6, "a"))],
        [("remove", 3, (1, "c"))],
        [("set", 1, 0, 6, 7)],
        [("set", 1, 2, 5, 7)],
        [("set", 3, 0, 1, 7)],
        [("set", 1, 0, 5, 6), ("set", 2, 1, "a", "c")],
        # Not canonical.
        [("set", 2, 0, 7, 6), ("set", 1, 0, 5, 6)],
        [("set", 1, 0, 5, 5)],
        [("remove", 1, (5, "a")), ("insert", 1, (5, "c"))],
    )

    def refused(self, action, *arguments):
        with self.subTest(arguments=arguments):
            with self.assertRaises(BadFit) as caught:
                action(*arguments)
            self.assertIs(type(caught.exception), BadFit)

    def test_one_of_both_does_not_fit(self):
        for wrong in self.WRONG:
            for side in SIDES:
                for right in (self.RIGHT, [], wrong):
                    for one, other in ((wrong, right), (right, wrong)):
                        self.refused(merged, ROWS, one, other, side)
                        for own in SIDES:
                            self.refused(turned, one, other, ROWS, side, own)

    def test_rows_that_are_not_there(self):
        self.refused(merged, (), self.RIGHT, [], "left")
        self.refused(merged, (), [], self.RIGHT, "left")
        self.refused(turned, self.RIGHT, [], (), "left", "left")
        self.refused(turned, [], self.RIGHT, (), "left", "left")
        # Each one alone fits no rows, but they lead to rows of unlike widths.
        for row_id in (1, 2):
            self.refused(turned, [("insert", 1, (1,))], [("insert", row_id, (1, 2))], (), "left", "left")
            self.refused(merged, (), [("insert", 1, (1,))], [("insert", row_id, (1, 2))], "left")


class ArgumentsTest(unittest.TestCase):
    def test_names_of_arguments(self):
        self.assertEqual(list(inspect.signature(merging_file.clashes).parameters), ["left", "right"])
        self.assertEqual(list(inspect.signature(merging_file.turned).parameters)[1:], ["other", "rows", "side", "own"])
        self.assertEqual(list(inspect.signature(merging_file.merged).parameters), ["rows", "left", "right", "side"])


if __name__ == "__main__":
    unittest.main()
