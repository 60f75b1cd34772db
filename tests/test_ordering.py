"""Partitions, rows in order, and groups of peers (c4, c6, o1, o2)."""

import inspect
import itertools
import unittest

import model
from windowtable import ordering
from windowtable.ordering import groups, ordered, partitions

# Ids with gaps, told in no order; the columns have nothing, integers and texts, the first one all three.
ROWS = (
    (9, ("b", 2, None)),
    (2, (None, 2, "x")),
    (14, (3, None, "x")),
    (4, ("b", -5, "")),
    (1, (3, 2, "ab")),
    (30, ("", None, None)),
    (7, (None, 10000, "a")),
    (3, ("ab", -5, "x")),
)
KEYS = [
    keys for many in range(4)
    for columns in itertools.product((0, 1, 2), repeat=many)
    for keys in [tuple(zip(columns, downs)) for downs in itertools.product((False, True), repeat=many)]
]


def arrangements(rows):
    """Some orders in which the same rows can be told."""
    return (rows, rows[::-1], rows[3:] + rows[:3], tuple(sorted(rows, key=lambda row: row[0])), rows[::2] + rows[1::2])


class OrderedTest(unittest.TestCase):
    def test_ascending(self):
        self.assertEqual(ordered(ROWS, ((0, False),)), [2, 7, 1, 14, 30, 3, 4, 9])
        self.assertEqual(ordered(ROWS, ((1, False),)), [14, 30, 3, 4, 1, 2, 9, 7])
        self.assertEqual(ordered(ROWS, ((2, False),)), [9, 30, 4, 7, 1, 2, 3, 14])

    def test_descending_nothing_is_last_and_the_lesser_id_still_first(self):
        self.assertEqual(ordered(ROWS, ((0, True),)), [4, 9, 3, 30, 1, 14, 2, 7])
        self.assertEqual(ordered(ROWS, ((1, True),)), [7, 1, 2, 9, 3, 4, 14, 30])
        self.assertEqual(ordered(ROWS, ((2, True),)), [2, 3, 14, 1, 7, 4, 9, 30])

    def test_the_next_key_tells_equal_ones_apart(self):
        self.assertEqual(ordered(ROWS, ((1, False), (0, False))), [14, 30, 3, 4, 2, 1, 9, 7])
        self.assertEqual(ordered(ROWS, ((1, False), (0, True))), [30, 14, 4, 3, 9, 1, 2, 7])
        self.assertEqual(ordered(ROWS, ((2, True), (1, True), (0, False))), [2, 3, 14, 1, 7, 4, 9, 30])
        self.assertEqual(ordered(ROWS, ((2, False), (1, False), (0, False))), [30, 9, 4, 7, 1, 14, 3, 2])

    def test_no_keys(self):
        self.assertEqual(ordered(ROWS, ()), [1, 2, 3, 4, 7, 9, 14, 30])

    def test_a_column_twice(self):
        for down, again in itertools.product((False, True), repeat=2):
            self.assertEqual(ordered(ROWS, ((0, down), (0, again))), ordered(ROWS, ((0, down),)))

    def test_all_values_the_same(self):
        rows = ((5, (1,)), (2, (1,)), (9, (1,)))
        self.assertEqual(ordered(rows, ((0, False),)), [2, 5, 9])
        self.assertEqual(ordered(rows, ((0, True),)), [2, 5, 9])

    def test_against_the_model_whatever_order_rows_are_told_in(self):
        for keys in KEYS:
            wanted = [row_id for row_id, _ in model.order(ROWS, keys)]
            for rows in arrangements(ROWS):
                self.assertEqual(ordered(rows, keys), wanted, (keys, rows))

    def test_no_rows(self):
        self.assertEqual(ordered((), ()), [])
        self.assertEqual(ordered((), ((0, True), (2, False))), [])

    def test_rows_without_cells(self):
        self.assertEqual(ordered(((2, ()), (1, ())), ()), [1, 2])


class GroupsTest(unittest.TestCase):
    def test_peers(self):
        self.assertEqual(groups(ROWS, ((1, False),)), [(14, 30), (3, 4), (1, 2, 9), (7,)])
        self.assertEqual(groups(ROWS, ((1, True),)), [(7,), (1, 2, 9), (3, 4), (14, 30)])
        self.assertEqual(groups(ROWS, ((0, False),)), [(2, 7), (1, 14), (30,), (3,), (4, 9)])

    def test_peers_by_all_keys(self):
        self.assertEqual(groups(ROWS, ((1, False), (2, False))), [(30,), (14,), (4,), (3,), (9,), (1,), (2,), (7,)])
        rows = ((1, (1, 2)), (2, (1, 3)), (3, (1, 2)), (4, (0, 2)))
        self.assertEqual(groups(rows, ((0, True), (1, False))), [(1, 3), (2,), (4,)])

    def test_without_keys_all_are_peers(self):
        self.assertEqual(groups(ROWS, ()), [(1, 2, 3, 4, 7, 9, 14, 30)])

    def test_against_the_model_whatever_order_rows_are_told_in(self):
        for keys in KEYS:
            line = model.order(ROWS, keys)
            wanted = [
                tuple(row_id for row_id, _ in peers)
                for _, peers in itertools.groupby(line, key=lambda row: model.group_of(line, keys, line.index(row)))
            ]
            for rows in arrangements(ROWS):
                told = groups(rows, keys)
                self.assertEqual(told, wanted, (keys, rows))
                self.assertEqual([row_id for group in told for row_id in group], ordered(rows, keys))

    def test_no_rows(self):
        self.assertEqual(groups((), ()), [])
        self.assertEqual(groups((), ((0, False),)), [])


class PartitionsTest(unittest.TestCase):
    def test_no_columns(self):
        self.assertEqual(partitions(ROWS, ()), [(1, 2, 3, 4, 7, 9, 14, 30)])

    def test_one_column(self):
        self.assertEqual(partitions(ROWS, (0,)), [(2, 7), (1, 14), (30,), (3,), (4, 9)])
        self.assertEqual(partitions(ROWS, (1,)), [(14, 30), (3, 4), (1, 2, 9), (7,)])
        self.assertEqual(partitions(ROWS, (2,)), [(9, 30), (4,), (7,), (1,), (2, 3, 14)])

    def test_several_columns(self):
        self.assertEqual(partitions(ROWS, (2, 1)), [(30,), (9,), (4,), (7,), (1,), (14,), (3,), (2,)])
        rows = ((4, (1, "a", 0)), (3, (0, "b", 0)), (2, (1, "a", 5)), (1, (0, "a", 0)), (5, (None, "b", 1)))
        self.assertEqual(partitions(rows, (0, 1)), [(5,), (1,), (3,), (2, 4)])
        self.assertEqual(partitions(rows, (1, 0)), [(1,), (2, 4), (5,), (3,)])
        self.assertEqual(partitions(rows, (2, 1, 0)), [(1,), (4,), (3,), (5,), (2,)])
        self.assertEqual(partitions(rows, (1, 1)), [(1, 2, 4), (3, 5)])

    def test_whatever_order_rows_are_told_in(self):
        for many in range(4):
            for numbers in itertools.product((0, 1, 2), repeat=many):
                wanted = []
                for row in model.order(ROWS, tuple((number, False) for number in numbers)):
                    ids = tuple(sorted(other[0] for other in model.partition(ROWS, numbers, row)))
                    if ids not in wanted:
                        wanted.append(ids)
                for rows in arrangements(ROWS):
                    self.assertEqual(partitions(rows, numbers), wanted, (numbers, rows))

    def test_no_rows(self):
        self.assertEqual(partitions((), ()), [])
        self.assertEqual(partitions((), (0, 1)), [])


class InterfaceTest(unittest.TestCase):
    def test_example(self):
        rows = ((1, ("b", 2)), (2, ("a", 2)), (3, ("b", None)))
        self.assertEqual(
            (partitions(rows, (0,)), ordered(rows, ((1, True),)), groups(rows, ((1, False),))),
            ([(2,), (1, 3)], [1, 2, 3], [(3,), (1, 2)]))

    def test_functions_with_their_arguments(self):
        wanted = {"partitions": ["rows", "numbers"], "ordered": ["rows", "keys"], "groups": ["rows", "keys"]}
        for name, arguments in wanted.items():
            with self.subTest(name):
                function = getattr(ordering, name)
                self.assertEqual(list(inspect.signature(function).parameters), arguments)
                self.assertEqual(function.__module__, "windowtable.ordering")

    def test_shapes(self):
        self.assertIs(type(ordered(ROWS, ((0, False),))), list)
        for told in (partitions(ROWS, (0,)), groups(ROWS, ((0, False),))):
            self.assertIs(type(told), list)
            self.assertEqual({type(ids) for ids in told}, {tuple})

    def test_what_is_returned_is_new(self):
        for function, more in ((partitions, (0,)), (ordered, ((0, False),)), (groups, ((0, False),))):
            first = function(ROWS, more)
            wanted = list(first)
            first.clear()
            self.assertEqual(function(ROWS, more), wanted)


if __name__ == "__main__":
    unittest.main()
