"""Canonical lists of changes (c9, h1 to h4)."""

import copy
import inspect
import itertools
import unittest

from windowtable import changes as changes_file
from windowtable.changes import apply, between, compose, inverse, is_canonical
from windowtable.errors import BadArgument, BadFit

ROWS = ((4, (1, "a", None)), (1, (5, None, 2)), (9, (0, "b", 7)))
BEHIND = ((1, (5, None, 2)), (4, (1, "a", None)), (9, (0, "b", 7)))
# What one row can be: not there, or with two cells.
STATES = (None, *itertools.product((None, 1, "a"), repeat=2))


def rows_of(*states):
    """Rows with the ids 2, 5 and so on, those that are there."""
    return tuple((2 + 3 * number, cells) for number, cells in enumerate(states) if cells is not None)


class RefusedTestCase(unittest.TestCase):
    def refused(self, action, *arguments):
        with self.subTest(arguments=arguments), self.assertRaises(BadFit) as caught:
            action(*arguments)
        self.assertIs(type(caught.exception), BadFit)

    def fits(self, action, *arguments):
        """What an action returns, or None if it is refused by BadFit."""
        try:
            return action(*arguments)
        except BadFit as error:
            self.assertIs(type(error), BadFit)
            return None


class IsCanonicalTest(unittest.TestCase):
    RIGHT = (
        [],
        [("insert", 1, (1, 2))],
        [("remove", 1, ())],
        [("set", 1, 0, None, "")],
        [("set", 1, 0, 1, 2), ("set", 1, 1, 1, 2), ("set", 1, 5, "a", None)],
        [("insert", 1, (1,)), ("remove", 2, (1,)), ("set", 3, 0, 1, 2), ("set", 3, 1, 2, 1), ("insert", 4, (1,))],
        [("set", 1, 3, 1, 2), ("set", 2, 0, 1, 2)],
        [("insert", 9, (1,)), ("insert", 10, (1,)), ("insert", 100, (1,))],
    )
    WRONG = (
        # Ids that do not ascend.
        [("insert", 2, (1,)), ("insert", 1, (1,))],
        [("remove", 2, (1,)), ("insert", 1, (1,))],
        [("set", 2, 0, 1, 2), ("set", 1, 1, 1, 2)],
        [("insert", 1, (1,)), ("remove", 3, (1,)), ("set", 2, 0, 1, 2)],
        [("insert", 10, (1,)), ("insert", 9, (1,))],
        [("set", 1, 0, 1, 2), ("insert", 2, (1,)), ("set", 1, 1, 1, 2)],
        # Columns that do not.
        [("set", 1, 1, 1, 2), ("set", 1, 0, 1, 2)],
        [("set", 1, 0, 1, 2), ("set", 1, 2, 1, 2), ("set", 1, 1, 1, 2)],
        [("set", 1, 10, 1, 2), ("set", 1, 9, 1, 2)],
        # A column twice.
        [("set", 1, 0, 1, 2), ("set", 1, 0, 2, 3)],
        [("set", 1, 0, 1, 2), ("set", 1, 0, 1, 2)],
        # More than once inserted, removed, or set and one of these.
        [("insert", 1, (1,)), ("insert", 1, (1,))],
        [("remove", 1, (1,)), ("remove", 1, (1,))],
        [("insert", 1, (1,)), ("remove", 1, (1,))],
        [("remove", 1, (1,)), ("insert", 1, (2,))],
        [("insert", 1, (1,)), ("set", 1, 0, 1, 2)],
        [("set", 1, 0, 1, 2), ("remove", 1, (2,))],
        [("set", 1, 0, 1, 2), ("insert", 1, (2,))],
        [("remove", 1, (2,)), ("set", 1, 0, 1, 2)],
        # Before and after the same.
        [("set", 1, 0, 1, 1)],
        [("set", 1, 0, None, None)],
        [("set", 1, 0, 1, 2), ("set", 1, 1, "a", "a")],
        [("insert", 1, (1,)), ("set", 2, 0, "", "")],
    )

    def test_canonical(self):
        for changes in self.RIGHT:
            with self.subTest(changes=changes):
                self.assertIs(is_canonical(changes), True)

    def test_not_canonical(self):
        for changes in self.WRONG:
            with self.subTest(changes=changes):
                self.assertIs(is_canonical(changes), False)

    def test_a_wrong_end(self):
        for changes in self.WRONG:
            ahead = [("insert", -1, (1,))]
            behind = [("insert", 1000, (1,))]
            self.assertIs(is_canonical(ahead + changes), False)
            self.assertIs(is_canonical(changes + behind), False)


class BetweenTest(unittest.TestCase):
    def test_each_kind_of_change(self):
        for others, wanted in (
            (ROWS, []),
            (ROWS[::-1], []),
            (ROWS[:2], [("remove", 9, (0, "b", 7))]),
            ((), [("remove", 1, (5, None, 2)), ("remove", 4, (1, "a", None)), ("remove", 9, (0, "b", 7))]),
            ((*ROWS, (6, (1, 2, 3))), [("insert", 6, (1, 2, 3))]),
            (((9, ("x", "b", None)), (1, (5, 0, 2)), (4, (1, "a", None))),
             [("set", 1, 1, None, 0), ("set", 9, 0, 0, "x"), ("set", 9, 2, 7, None)]),
            (((10, (1, 1, 1)), (2, (0, 0, 0)), (4, (None, "", 3)), (1, (5, None, 2))),
             [("insert", 2, (0, 0, 0)), ("set", 4, 0, 1, None), ("set", 4, 1, "a", ""), ("set", 4, 2, None, 3),
              ("remove", 9, (0, "b", 7)), ("insert", 10, (1, 1, 1))]),
        ):
            for rows in itertools.permutations(ROWS):
                with self.subTest(rows=rows, others=others):
                    told = between(rows, others)
                    self.assertEqual(told, wanted)
                    self.assertEqual(between(rows, others[::-1]), wanted)
                    self.assertIs(type(told), list)
                    self.assertEqual({type(change) for change in told} - {tuple}, set())

    def test_values_that_look_alike(self):
        self.assertEqual(between(((1, (None, 0)),), ((1, (0, "")),)), [("set", 1, 0, None, 0), ("set", 1, 1, 0, "")])

    def test_the_one_canonical_list(self):
        for ahead, behind in itertools.product(itertools.product(STATES, repeat=2), repeat=2):
            rows, others = rows_of(*ahead), rows_of(*behind)
            told = between(rows, others)
            self.assertIs(is_canonical(told), True)
            self.assertEqual(apply(rows, told), others)

    def test_cells(self):
        one, two = ((1, (5,)),), ((2, (5, 6)),)
        for rows, others in (
            (one, two), (two, one), (one + two, ()), ((), one + two), (one + two, one), (one, two + one),
            (((1, ()),), one), (ROWS, two), (ROWS, ((1, (5, None)), (4, (1, "a")), (9, (0, "b")))),
        ):
            with self.subTest(rows=rows, others=others), self.assertRaises(BadArgument) as caught:
                between(rows, others)
            self.assertIs(type(caught.exception), BadArgument)
            self.assertEqual(caught.exception.reason, "cells")

    def test_no_rows(self):
        self.assertEqual(between((), ()), [])
        self.assertEqual(between((), ((3, (1,)), (2, ("a",)))), [("insert", 2, ("a",)), ("insert", 3, (1,))])
        self.assertEqual(between((), ((3, ()),)), [("insert", 3, ())])


class ApplyTest(RefusedTestCase):
    def test_changes(self):
        for changes, wanted in (
            ([], BEHIND),
            ([("insert", 6, (1, 2, 3))], BEHIND[:2] + ((6, (1, 2, 3)),) + BEHIND[2:]),
            ([("insert", 2, (1, 2, 3)), ("insert", 30, (None, "", 0))],
             BEHIND[:1] + ((2, (1, 2, 3)),) + BEHIND[1:] + ((30, (None, "", 0)),)),
            ([("remove", 4, (1, "a", None))], (BEHIND[0], BEHIND[2])),
            ([("set", 9, 0, 0, "x"), ("set", 9, 2, 7, None)], BEHIND[:2] + ((9, ("x", "b", None)),)),
            ([("set", 1, 1, None, 0), ("remove", 4, (1, "a", None)), ("insert", 5, (0, 0, 0)), ("set", 9, 1, "b", "")],
             ((1, (5, 0, 2)), (5, (0, 0, 0)), (9, (0, "", 7)))),
            ([("remove", 1, (5, None, 2)), ("remove", 4, (1, "a", None)), ("remove", 9, (0, "b", 7))], ()),
        ):
            for rows in itertools.permutations(ROWS):
                with self.subTest(changes=changes, rows=rows):
                    told = apply(rows, changes)
                    self.assertEqual(told, wanted)
                    self.assertIs(type(told), tuple)

    def test_no_rows(self):
        self.assertEqual(apply((), []), ())
        self.assertEqual(apply((), [("insert", 2, (1,)), ("insert", 3, ("a",))]), ((2, (1,)), (3, ("a",))))
        self.assertEqual(apply((), [("insert", 2, ())]), ((2, ()),))

    def test_lists_that_are_not_canonical(self):
        rows = ((1, (1, 1)), (2, (1, 1)), (3, (1, 2)))
        for changes in (
            [("remove", 2, (1, 1)), ("remove", 1, (1, 1))],
            [("insert", 5, (1, 1)), ("insert", 4, (1, 1))],
            [("set", 1, 1, 1, 2), ("set", 1, 0, 1, 2)],
            [("set", 1, 0, 1, 2), ("set", 1, 0, 2, 3)],
            [("set", 1, 0, 1, 1)],
            [("remove", 1, (1, 1)), ("insert", 1, (2, 2))],
            [("insert", 4, (1, 1)), ("remove", 4, (1, 1))],
            [("insert", 4, (1, 1)), ("set", 4, 0, 1, 2)],
            [("set", 1, 0, 1, 2), ("remove", 1, (2, 1))],
        ):
            self.refused(apply, rows, changes)
        for changes in IsCanonicalTest.WRONG:
            self.refused(apply, rows, changes)

    def test_inserts(self):
        self.refused(apply, ROWS, [("insert", 4, (1, "a", None))])
        self.refused(apply, ROWS, [("insert", 4, (0, 0, 0))])
        self.refused(apply, ROWS, [("insert", 5, (0, 0))])
        self.refused(apply, ROWS, [("insert", 5, (0, 0, 0, 0))])
        self.refused(apply, ROWS, [("insert", 5, ())])
        self.refused(apply, ((1, ()),), [("insert", 1, ())])
        self.refused(apply, (), [("insert", 1, (1,)), ("insert", 2, (1, 2))])
        self.refused(apply, (), [("insert", 1, (1, 2)), ("insert", 2, (1,))])
        # Rows that go still tell how many cells there are.
        self.refused(apply, ((1, (5,)),), [("remove", 1, (5,)), ("insert", 2, (1, 2))])
        self.refused(apply, ((2, (5,)),), [("insert", 1, (1, 2)), ("remove", 2, (5,))])

    def test_removes(self):
        self.refused(apply, ROWS, [("remove", 5, (1, "a", None))])
        self.refused(apply, ROWS, [("remove", 4, (1, "a", 0))])
        self.refused(apply, ROWS, [("remove", 4, (1, "a"))])
        self.refused(apply, ROWS, [("remove", 4, (1, "a", None, None))])
        self.refused(apply, ROWS, [("remove", 4, ())])
        self.refused(apply, (), [("remove", 1, ())])

    def test_sets(self):
        self.refused(apply, ROWS, [("set", 5, 0, 1, 2)])
        self.refused(apply, ROWS, [("set", 4, 3, None, 2)])
        self.refused(apply, ROWS, [("set", 4, 100, None, 2)])
        self.refused(apply, ROWS, [("set", 4, -1, None, 2)])
        self.refused(apply, ROWS, [("set", 4, -3, 1, 2)])
        self.refused(apply, ROWS, [("set", 4, 0, 2, 3)])
        self.refused(apply, ROWS, [("set", 4, 2, 0, 3)])
        self.refused(apply, ROWS, [("set", 4, 1, None, 3)])
        self.refused(apply, ROWS, [("set", 4, 0, 1, 2), ("set", 4, 1, "b", "c")])
        self.refused(apply, (), [("set", 1, 0, None, 1)])
        self.refused(apply, ((1, ()),), [("set", 1, 0, None, 1)])

    def test_a_later_change_that_does_not_fit(self):
        self.refused(apply, ROWS, [("remove", 1, (5, None, 2)), ("set", 4, 0, 1, 2), ("insert", 9, (0, 0, 0))])

    def test_rows_with_unlike_numbers_of_cells(self):
        self.refused(apply, ((1, (5,)), (2, (5, 6))), [])
        self.refused(apply, ((1, (5,)), (2, (5, 6))), [("remove", 2, (5, 6))])


class ComposeTest(RefusedTestCase):
    def check(self, first, second, wanted):
        with self.subTest(first=first, second=second):
            told = compose(first, second)
            self.assertEqual(told, wanted)
            self.assertIs(type(told), list)
            self.assertIs(is_canonical(told), True)

    def test_nothing(self):
        lists = IsCanonicalTest.RIGHT
        for changes in lists:
            self.check([], changes, changes)
            self.check(changes, [], changes)

    def test_insert_and_remove(self):
        self.check([("insert", 3, (1, "a"))], [("remove", 3, (1, "a"))], [])
        self.check([("insert", 3, ())], [("remove", 3, ())], [])
        self.refused(compose, [("insert", 3, (1, "a"))], [("remove", 3, (1, "b"))])
        self.refused(compose, [("insert", 3, (1, "a"))], [("remove", 3, (1,))])
        self.refused(compose, [("insert", 3, (1,))], [("remove", 3, (1, None))])

    def test_insert_and_sets(self):
        self.check([("insert", 3, (1, "a", None))], [("set", 3, 0, 1, 2)], [("insert", 3, (2, "a", None))])
        self.check([("insert", 3, (1, "a", None))], [("set", 3, 1, "a", None), ("set", 3, 2, None, "")],
                   [("insert", 3, (1, None, ""))])
        self.refused(compose, [("insert", 3, (1, "a"))], [("set", 3, 0, 2, 1)])
        self.refused(compose, [("insert", 3, (1, "a"))], [("set", 3, 0, 1, 2), ("set", 3, 1, "b", "a")])
        self.refused(compose, [("insert", 3, (1, "a"))], [("set", 3, 2, None, 1)])
        self.refused(compose, [("insert", 3, (1, "a"))], [("set", 3, -1, "a", 1)])

    def test_insert_and_insert(self):
        self.refused(compose, [("insert", 3, (1,))], [("insert", 3, (1,))])
        self.refused(compose, [("insert", 3, (1,))], [("insert", 3, (2,))])

    def test_remove_and_insert(self):
        self.check([("remove", 3, (1, "a", None))], [("insert", 3, (1, "b", 0))],
                   [("set", 3, 1, "a", "b"), ("set", 3, 2, None, 0)])
        self.check([("remove", 3, (1, "a"))], [("insert", 3, (1, "a"))], [])
        self.refused(compose, [("remove", 3, (1, "a"))], [("insert", 3, (1,))])
        self.refused(compose, [("remove", 3, (1, "a"))], [("insert", 3, (1, "a", 2))])

    def test_remove_and_others(self):
        self.refused(compose, [("remove", 3, (1,))], [("remove", 3, (1,))])
        self.refused(compose, [("remove", 3, (1,))], [("set", 3, 0, 1, 2)])

    def test_sets_and_remove(self):
        self.check([("set", 3, 0, 1, 2)], [("remove", 3, (2, "a"))], [("remove", 3, (1, "a"))])
        self.check([("set", 3, 0, 1, 2), ("set", 3, 2, None, "")], [("remove", 3, (2, "a", ""))],
                   [("remove", 3, (1, "a", None))])
        self.refused(compose, [("set", 3, 0, 1, 2)], [("remove", 3, (1, "a"))])
        self.refused(compose, [("set", 3, 0, 1, 2), ("set", 3, 1, 1, 2)], [("remove", 3, (2, 1))])
        self.refused(compose, [("set", 3, 2, 1, None)], [("remove", 3, (2, 1))])
        self.refused(compose, [("set", 3, -1, 1, 2)], [("remove", 3, (2, 2))])

    def test_sets_and_insert(self):
        self.refused(compose, [("set", 3, 0, 1, 2)], [("insert", 3, (2,))])

    def test_sets_and_sets(self):
        self.check([("set", 3, 0, 1, 2)], [("set", 3, 0, 2, 3)], [("set", 3, 0, 1, 3)])
        self.check([("set", 3, 0, 1, 2)], [("set", 3, 0, 2, 1)], [])
        self.check([("set", 3, 1, 1, 2)], [("set", 3, 0, 2, 1)], [("set", 3, 0, 2, 1), ("set", 3, 1, 1, 2)])
        self.check([("set", 3, 0, 2, 1)], [("set", 3, 1, 1, 2)], [("set", 3, 0, 2, 1), ("set", 3, 1, 1, 2)])
        self.check([("set", 3, 0, 1, 2), ("set", 3, 2, "a", None), ("set", 3, 5, 1, 2)],
                   [("set", 3, 1, 7, 8), ("set", 3, 2, None, "b"), ("set", 3, 5, 2, 1)],
                   [("set", 3, 0, 1, 2), ("set", 3, 1, 7, 8), ("set", 3, 2, "a", "b")])
        self.refused(compose, [("set", 3, 0, 1, 2)], [("set", 3, 0, 1, 2)])
        self.refused(compose, [("set", 3, 0, 1, 2)], [("set", 3, 0, 3, 2)])
        self.refused(compose, [("set", 3, 0, 1, 2), ("set", 3, 1, 1, 2)], [("set", 3, 0, 2, 1), ("set", 3, 1, 1, 2)])

    def test_row_by_row(self):
        self.check(
            [("insert", 1, (1,)), ("set", 4, 0, 1, 2), ("remove", 5, (3,)), ("insert", 8, (4,))],
            [("set", 1, 0, 1, 7), ("remove", 3, (6,)), ("remove", 4, (2,)), ("insert", 5, (4,)), ("insert", 10, (0,))],
            [("insert", 1, (7,)), ("remove", 3, (6,)), ("remove", 4, (1,)), ("set", 5, 0, 3, 4), ("insert", 8, (4,)),
             ("insert", 10, (0,))])
        self.check([("insert", 10, (1,))], [("insert", 9, (1,))], [("insert", 9, (1,)), ("insert", 10, (1,))])
        self.refused(compose, [("insert", 1, (1,)), ("set", 4, 0, 1, 2)], [("set", 1, 0, 1, 7), ("set", 4, 0, 1, 2)])

    def test_lists_that_are_not_canonical(self):
        for changes in IsCanonicalTest.WRONG:
            self.refused(compose, changes, [])
            self.refused(compose, [], changes)
            self.refused(compose, changes, [("insert", 1000, (1,))])

    def test_every_pair_of_lists_of_one_row(self):
        lists = [[]]
        for ahead, behind in itertools.product(STATES, repeat=2):
            changes = between(rows_of(ahead), rows_of(behind))
            if changes not in lists:
                lists.append(changes)
        for first, second in itertools.product(lists, repeat=2):
            told = self.fits(compose, first, second)
            fitted = False
            for state in STATES:
                rows = rows_of(state)
                middle = self.fits(apply, rows, first)
                behind = None if middle is None else self.fits(apply, middle, second)
                if behind is not None:
                    fitted = True
                    self.assertIsNotNone(told, (first, second))
                    self.assertEqual(apply(rows, told), behind, (first, second))
                    self.assertEqual(told, between(rows, behind), (first, second))
            self.assertEqual(told is not None, fitted, (first, second))
            if told is not None:
                self.assertIs(is_canonical(told), True)

    def test_what_is_returned_is_new(self):
        changes = [("set", 3, 0, 1, 2)]
        for told in (compose(changes, []), compose([], changes)):
            told.clear()
        self.assertEqual(changes, [("set", 3, 0, 1, 2)])


class InverseTest(unittest.TestCase):
    def test_each_change(self):
        self.assertEqual(
            inverse([("insert", 1, (1, "a")), ("remove", 2, (None, "b")), ("set", 3, 0, 1, None), ("set", 3, 4, "", "b")]),
            [("remove", 1, (1, "a")), ("insert", 2, (None, "b")), ("set", 3, 0, None, 1), ("set", 3, 4, "b", "")])
        self.assertEqual(inverse([]), [])

    def test_twice_is_the_list_itself(self):
        for changes in IsCanonicalTest.RIGHT:
            self.assertEqual(inverse(inverse(changes)), changes)
            self.assertIs(is_canonical(inverse(changes)), True)

    def test_a_list_and_its_inverse_compose_to_the_empty_list(self):
        for changes in IsCanonicalTest.RIGHT:
            self.assertEqual(compose(changes, inverse(changes)), [])
            self.assertEqual(compose(inverse(changes), changes), [])

    def test_it_leads_back(self):
        for ahead, behind in itertools.product(itertools.product(STATES, repeat=2), repeat=2):
            rows, others = rows_of(*ahead), rows_of(*behind)
            changes = between(rows, others)
            self.assertEqual(inverse(changes), between(others, rows))
            self.assertEqual(apply(others, inverse(changes)), rows)

    def test_what_is_returned_is_new(self):
        changes = []
        self.assertIsNot(inverse(changes), changes)


class LawsTest(unittest.TestCase):
    def test_compose_then_apply(self):
        some = STATES[::2]
        for first, second, third in itertools.product(itertools.product(some, repeat=2), repeat=3):
            rows, middle, others = rows_of(*first), rows_of(*second), rows_of(*third)
            together = compose(between(rows, middle), between(middle, others))
            self.assertEqual(together, between(rows, others))
            self.assertEqual(apply(rows, together), others)

    def test_arguments_stay(self):
        first = [("insert", 1, (1,)), ("set", 4, 0, 1, 2), ("remove", 5, (3,))]
        second = [("set", 1, 0, 1, 7), ("remove", 4, (2,)), ("insert", 5, (4,))]
        kept = copy.deepcopy((first, second))
        compose(first, second)
        inverse(first)
        is_canonical(first)
        apply(((4, (1,)), (5, (3,))), first)
        self.assertEqual((first, second), kept)


class InterfaceTest(unittest.TestCase):
    def test_examples(self):
        self.assertEqual(
            between(((1, (5, "a")), (2, (7, None))), ((2, (7, "b")), (3, (0, "c")))),
            [("remove", 1, (5, "a")), ("set", 2, 1, None, "b"), ("insert", 3, (0, "c"))])
        self.assertEqual(
            (compose([("remove", 2, (1, 2))], [("insert", 2, (1, 3))]),
             compose([("set", 3, 0, 1, 2)], [("set", 3, 0, 2, 1)])),
            ([("set", 2, 1, 2, 3)], []))

    def test_functions_with_their_arguments(self):
        wanted = {
            "between": ["rows", "others"], "apply": ["rows", "changes"], "compose": ["first", "second"],
            "inverse": ["changes"], "is_canonical": ["changes"],
        }
        for name, arguments in wanted.items():
            with self.subTest(name):
                function = getattr(changes_file, name)
                self.assertEqual(list(inspect.signature(function).parameters), arguments)
                self.assertEqual(function.__module__, "windowtable.changes")


if __name__ == "__main__":
    unittest.main()
