"""Copies and watchers (w1, w2)."""

import copy
import inspect
import itertools
import random
import unittest

import table_model
from windowtable.changes import apply, compose, inverse, is_canonical
from windowtable.errors import BadArgument, BadDeed, BadFit
from windowtable.followers import Copy, Watcher
from windowtable.table import Table

COLUMNS = (("who", "text"), ("day", "integer"), ("paid", "integer"))
TEXTS = ("total = sum paid over (partition who order day)", "place = rank over (order total descending)")
ROWS = ((1, ("ann", 1)), (3, ("bob", None)), (4, (None, 7)))


def doings(table, seed, many):
    """Does so many things to a table, and yields what each one told; what told None does not count."""
    dice = random.Random(seed)
    while many:
        word = dice.choice(("do", "do", "do", "back", "forth"))
        if word != "do":
            changes = getattr(table, word)()
        else:
            try:
                changes = table.do(table_model.random_deeds(dice, COLUMNS, [row_id for row_id, _ in table.rows()]))
            except BadDeed:
                continue
        if changes is not None:
            many -= 1
            yield changes


class CopyTest(unittest.TestCase):
    def refused(self, rows, changes):
        follower = Copy(rows)
        with self.subTest(changes=changes):
            with self.assertRaises(BadFit) as caught:
                follower.follow(changes)
            self.assertIs(type(caught.exception), BadFit)
            self.assertEqual(follower.rows(), tuple(sorted(rows)))

    def test_rows(self):
        for rows in itertools.permutations(ROWS):
            self.assertEqual(Copy(rows).rows(), ROWS)
        self.assertEqual(Copy(()).rows(), ())
        self.assertIs(type(Copy(ROWS).rows()), tuple)

    def test_follow(self):
        for rows in itertools.permutations(ROWS):
            follower = Copy(rows)
            self.assertIsNone(follower.follow([("set", 1, 1, 1, 2), ("insert", 2, ("", 0)), ("remove", 4, (None, 7))]))
            self.assertEqual(follower.rows(), ((1, ("ann", 2)), (2, ("", 0)), (3, ("bob", None))))
            follower.follow([])
            follower.follow([("set", 1, 0, "ann", None), ("set", 1, 1, 2, 1)])
            self.assertEqual(follower.rows(), ((1, (None, 1)), (2, ("", 0)), (3, ("bob", None))))
        follower = Copy(())
        follower.follow([("insert", 5, (1, 2, 3))])
        follower.follow([("remove", 5, (1, 2, 3))])
        follower.follow([("insert", 5, (1,))])
        self.assertEqual(follower.rows(), ((5, (1,)),))

    def test_lists_that_do_not_fit(self):
        for changes in (
            [("insert", 1, ("ann", 1))],
            [("insert", 2, ("ann",))],
            [("insert", 2, ("ann", 1, 1))],
            [("remove", 2, ("ann", 1))],
            [("remove", 1, ("ann", 2))],
            [("set", 2, 0, "ann", "bob")],
            [("set", 1, 2, None, 1)],
            [("set", 1, 0, "bob", "cid")],
            # One that fits stands ahead of one that does not, and behind it.
            [("set", 1, 1, 1, 2), ("set", 3, 1, 0, 2)],
            [("remove", 1, ("ann", 1)), ("insert", 2, ("bob", 1)), ("set", 4, 0, "", "a")],
            [("set", 1, 1, 7, 2), ("remove", 4, (None, 7))],
        ):
            self.refused(ROWS, changes)
            self.refused(ROWS[::-1], changes)
        self.refused((), [("insert", 1, ("ann", 1)), ("insert", 2, ("ann",))])

    def test_goes_on_behind_a_refusal(self):
        follower = Copy(ROWS)
        with self.assertRaises(BadFit):
            follower.follow([("remove", 1, ("ann", 1)), ("remove", 2, ())])
        follower.follow([("remove", 1, ("ann", 1))])
        self.assertEqual(follower.rows(), ROWS[1:])

    def test_led_by_the_lists_of_a_table(self):
        for seed in range(6):
            table = Table(COLUMNS, TEXTS)
            copies = [(Copy(table.rows()[::-1]), [])]
            ahead = [table.rows()]
            for changes in doings(table, seed, 18):
                for follower, lists in copies:
                    follower.follow(changes)
                    lists.append(changes)
                    self.assertEqual(follower.rows(), table.rows())
                for (_, lists), rows in zip(copies, ahead):
                    together = []
                    for told in lists:
                        together = compose(together, told)
                    by_one = Copy(rows)
                    by_one.follow(together)
                    self.assertEqual(by_one.rows(), table.rows())
                copies.append((Copy(table.rows()), []))
                ahead.append(table.rows())

    def test_led_by_the_list_since_a_version(self):
        table = Table(COLUMNS, TEXTS)
        for _ in doings(table, 11, 20):
            pass
        while table.back() is not None:
            pass
        rows_of = [table.rows()]
        while table.forth() is not None:
            rows_of.append(table.rows())
        self.assertGreater(len(rows_of), 3)
        for _ in rows_of:
            for version, rows in enumerate(rows_of):
                follower = Copy(rows)
                follower.follow(table.since(version))
                self.assertEqual(follower.rows(), table.rows())
                follower.follow(inverse(table.since(version)))
                self.assertEqual(follower.rows(), rows)
            table.back()

    def test_a_copy_is_led_by_lists_alone(self):
        table = Table(COLUMNS, TEXTS)
        table.do((("insert", ("ann", 1, 1)),))
        follower = Copy(table.rows())
        before = follower.rows()
        table.do((("remove", 1),))
        self.assertEqual(follower.rows(), before)

    def test_arguments_stay_as_they_were(self):
        rows, changes = ROWS[::-1], [("set", 1, 1, 1, 2), ("remove", 4, (None, 7))]
        before = copy.deepcopy((rows, changes))
        Copy(rows).follow(changes)
        self.assertEqual((rows, changes), before)


class WatcherTest(unittest.TestCase):
    NAMES = ("who", "day", "paid", "total", "place")

    def told(self, table, names):
        """The rows of a table with the cells of some columns."""
        return tuple((i, tuple(cells[self.NAMES.index(name)] for name in names)) for i, cells in table.rows())

    def test_spelled_out(self):
        table = Table(COLUMNS, TEXTS)
        watcher, other = Watcher(table, ("place", "who")), Watcher(table, ("day",))
        self.assertEqual(watcher.tell(), [])
        table.do((("insert", ("ann", 1, 10)), ("insert", ("bob", 1, 7))))
        self.assertEqual(watcher.tell(), [("insert", 1, (1, "ann")), ("insert", 2, (2, "bob"))])
        self.assertEqual(watcher.tell(), [])
        table.do((("set", 2, "paid", 12), ("set", 2, "who", "cid")))
        self.assertEqual(watcher.tell(), [("set", 1, 0, 1, 2), ("set", 2, 0, 2, 1), ("set", 2, 1, "bob", "cid")])
        table.do((("set", 2, "day", 3),))
        self.assertEqual(watcher.tell(), [])
        self.assertEqual(other.tell(), [("insert", 1, (1,)), ("insert", 2, (3,))])
        table.back()
        table.back()
        self.assertEqual(watcher.tell(), [("set", 1, 0, 2, 1), ("set", 2, 0, 1, 2), ("set", 2, 1, "cid", "bob")])
        self.assertEqual(other.tell(), [("set", 2, 0, 3, 1)])
        table.do((("remove", 1),))
        self.assertEqual(watcher.tell(), [("remove", 1, (1, "ann")), ("set", 2, 0, 2, 1)])
        self.assertIs(type(other.tell()), list)

    def test_made_later(self):
        table = Table(COLUMNS, TEXTS)
        table.do((("insert", ("ann", 1, 10)),))
        watcher = Watcher(table, ("paid",))
        self.assertEqual(watcher.tell(), [])
        table.do((("set", 1, "paid", 2),))
        table.do((("set", 1, "paid", 10),))
        self.assertEqual(watcher.tell(), [])
        table.do((("insert", ("ann", 1, 3)),))
        self.assertEqual(watcher.tell(), [("insert", 2, (3,))])

    def test_any_columns_in_any_order(self):
        for many in range(1, 6):
            for names in itertools.permutations(self.NAMES, many):
                table = Table(COLUMNS, TEXTS)
                table.do((("insert", ("ann", 1, 10)), ("insert", ("bob", 2, 9))))
                watcher, before = Watcher(table, names), self.told(table, names)
                table.do((("set", 2, "who", "ann"), ("set", 2, "paid", 3), ("set", 1, "day", 3), ("insert", ("bob", 1, 1))))
                changes = watcher.tell()
                self.assertEqual(changes, table_model.changes(before, self.told(table, names)))
                self.assertEqual(apply(before, changes), self.told(table, names))

    def test_along_long_rows_of_doings(self):
        for seed, names in enumerate((("who",), ("place",), ("total", "day"), ("paid", "place", "who"), self.NAMES[::-1], ())):
            table = Table(COLUMNS, TEXTS)
            watcher, sometimes = Watcher(table, names), Watcher(table, names)
            ahead = then = self.told(table, names)
            for place, _ in enumerate(doings(table, seed, 20)):
                changes = watcher.tell()
                self.assertEqual(changes, table_model.changes(ahead, self.told(table, names)))
                self.assertTrue(is_canonical(changes))
                ahead = self.told(table, names)
                if place % 4 == 3:
                    self.assertEqual(sometimes.tell(), table_model.changes(then, ahead))
                    then = ahead

    def test_what_is_told_is_not_changed_later(self):
        table = Table(COLUMNS, TEXTS)
        watcher = Watcher(table, ("total",))
        table.do((("insert", ("ann", 1, 10)),))
        told = watcher.tell()
        wanted = list(told)
        table.do((("set", 1, "paid", 2),))
        self.assertEqual(told, wanted)
        told.append("more")
        self.assertEqual(watcher.tell(), [("set", 1, 0, 10, 2)])
        self.assertEqual(watcher.tell(), [])

    def test_no_such_column(self):
        table = Table(COLUMNS, TEXTS)
        for names in (("gone",), ("who", "gone"), ("gone", "who"), ("",), ("who", "day", "paid", "total", "place", "x"),
                      ("who", "who"), ("Total",)):
            with self.subTest(names=names):
                with self.assertRaises(BadArgument) as caught:
                    Watcher(table, names)
                self.assertIs(type(caught.exception), BadArgument)
                self.assertEqual(caught.exception.reason, "column")


class MethodsTest(unittest.TestCase):
    def test_methods_are_defined_in_the_classes(self):
        for kind, names in ((Copy, ("follow", "rows")), (Watcher, ("tell",))):
            for name in names:
                self.assertIn(name, vars(kind))
        self.assertEqual(list(inspect.signature(Copy).parameters), ["rows"])
        self.assertEqual(list(inspect.signature(Copy.follow).parameters), ["self", "changes"])
        self.assertEqual(list(inspect.signature(Watcher).parameters), ["table", "names"])


if __name__ == "__main__":
    unittest.main()
