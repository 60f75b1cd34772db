"""Deeds of a table, and why they are refused (d1)."""

import itertools
import unittest

from windowtable.errors import BadDeed
from windowtable.table import Table

COLUMNS = (("who", "text"), ("day", "integer"))
DEFINITIONS = ("size1 = size over (partition who)",)


class DeedsTestCase(unittest.TestCase):
    def state(self, table):
        return (table.rows(), table.version(), table.versions(), table.next_id(), table.worked(), table.journal(),
                table.columns(), table.definitions())

    def refused(self, table, deeds, reason):
        """Holds that deeds are refused with a reason, and that nothing was done."""
        before = self.state(table)
        with self.subTest(deeds=deeds):
            with self.assertRaises(BadDeed) as caught:
                table.do(deeds)
            self.assertIs(type(caught.exception), BadDeed)
            self.assertEqual(caught.exception.reason, reason)
            self.assertEqual(self.state(table), before)

    def table(self, *rows):
        table = Table(COLUMNS, DEFINITIONS)
        if rows:
            table.do(tuple(("insert", cells) for cells in rows))
        return table


class DoneTest(DeedsTestCase):
    def test_insert(self):
        table = self.table()
        self.assertEqual(table.do((("insert", ("ann", 3)),)), [("insert", 1, ("ann", 3, 1))])
        self.assertEqual(table.do((("insert", ("bob", None)),)), [("insert", 2, ("bob", None, 1))])
        self.assertEqual(table.do((("insert", ("ann", 3)), ("insert", (None, -1)))),
                         [("set", 1, 2, 1, 2), ("insert", 3, ("ann", 3, 2)), ("insert", 4, (None, -1, 1))])
        self.assertEqual(table.next_id(), 5)
        self.assertEqual(table.rows(), ((1, ("ann", 3, 2)), (2, ("bob", None, 1)), (3, ("ann", 3, 2)), (4, (None, -1, 1))))

    def test_set(self):
        table = self.table(("ann", 1), ("bob", 2))
        self.assertEqual(table.do((("set", 2, "day", -9999),)), [("set", 2, 1, 2, -9999)])
        self.assertEqual(table.do((("set", 2, "who", "ann"),)),
                         [("set", 1, 2, 1, 2), ("set", 2, 0, "bob", "ann"), ("set", 2, 2, 1, 2)])
        self.assertEqual(table.do((("set", 1, "who", None), ("set", 1, "day", None))),
                         [("set", 1, 0, "ann", None), ("set", 1, 1, 1, None), ("set", 1, 2, 2, 1), ("set", 2, 2, 2, 1)])
        self.assertEqual(table.do((("set", 1, "who", "zzzzzz"), ("set", 1, "who", ""))), [("set", 1, 0, None, "")])
        self.assertEqual(table.do((("set", 1, "day", 9999), ("set", 1, "day", 0))), [("set", 1, 1, None, 0)])
        self.assertEqual(table.next_id(), 3)

    def test_remove(self):
        table = self.table(("ann", 1), ("ann", 2), ("bob", 2))
        self.assertEqual(table.do((("remove", 1),)), [("remove", 1, ("ann", 1, 2)), ("set", 2, 2, 2, 1)])
        self.assertEqual(table.do((("remove", 3), ("remove", 2))), [("remove", 2, ("ann", 2, 1)), ("remove", 3, ("bob", 2, 1))])
        self.assertEqual((table.rows(), table.next_id()), ((), 4))
        # No number is given again.
        self.assertEqual(table.do((("insert", ("ann", 1)),)), [("insert", 4, ("ann", 1, 1))])

    def test_deeds_build_on_those_ahead_of_them(self):
        table = self.table(("ann", 1))
        self.assertEqual(table.do((("insert", ("bob", 5)), ("set", 2, "day", 6), ("set", 2, "who", "ann"))),
                         [("set", 1, 2, 1, 2), ("insert", 2, ("ann", 6, 2))])
        self.assertEqual(table.do((("insert", ("cid", 1)), ("remove", 3))), [])
        self.assertEqual((table.next_id(), table.version(), table.versions()), (4, 3, 4))
        self.assertEqual(table.do((("remove", 1), ("insert", ("ann", 1)))),
                         [("remove", 1, ("ann", 1, 2)), ("insert", 4, ("ann", 1, 2))])
        self.assertEqual(table.do((("set", 2, "day", 7), ("remove", 2))),
                         [("remove", 2, ("ann", 6, 2)), ("set", 4, 2, 2, 1)])

    def test_what_changes_nothing_is_a_doing_too(self):
        table = self.table(("ann", 1))
        self.assertEqual(table.do((("set", 1, "day", 1),)), [])
        self.assertEqual(table.do((("set", 1, "who", "bob"), ("set", 1, "who", "ann"))), [])
        self.assertEqual((table.version(), table.versions(), table.worked()), (3, 4, (0,)))

    def test_sixteen_rows(self):
        table = self.table(*[("ann", day) for day in range(16)])
        self.assertEqual(len(table.rows()), 16)
        self.refused(table, (("insert", ("ann", 1)),), "too many rows")
        self.refused(table, (("set", 1, "day", 3), ("insert", ("ann", 1))), "too many rows")
        self.refused(table, (("remove", 1), ("insert", ("ann", 1)), ("insert", ("ann", 2))), "too many rows")
        table.do((("remove", 1), ("insert", ("ann", 1))))
        self.assertEqual([row_id for row_id, _ in table.rows()], list(range(2, 18)))
        self.refused(self.table(), tuple(("insert", ("a", day)) for day in range(17)), "too many rows")
        self.assertEqual(len(self.table(*[("a", 1)] * 15).do((("insert", ("b", 1)),))), 1)

    def test_sixteen_and_more_numbers_in_one_doing(self):
        table = self.table()
        deeds = tuple(itertools.chain.from_iterable((("insert", ("a", n)), ("remove", n)) for n in range(1, 41)))
        self.assertEqual(table.do(deeds), [])
        self.assertEqual(table.next_id(), 41)


class RefusedTest(DeedsTestCase):
    def test_cells(self):
        table = self.table(("ann", 1))
        for cells in (
            (), ("ann",), ("ann", 1, 1), ("ann", 1, None), (None,),
            (1, 1), ("ann", "a"), (1, "ann"), ("ann", ""),
            ("ann", 10000), ("ann", -10000), ("ann", 10 ** 30), ("abcdefg", 1), ("Ann", 1), ("a b", 1), ("a1", 1),
            ("\u00e4", 1), ("a\n", 1), ("-", 1), (None, "none"), (True, 1), ("ann", False),
        ):
            self.refused(table, (("insert", cells),), "cells")
        for cells in (("abcdef", 9999), ("", -9999), (None, None), ("z", 0)):
            table.do((("insert", cells),))
            self.assertEqual(table.rows()[-1][1][:2], cells)

    def test_no_row(self):
        table = self.table(("ann", 1), ("ann", 2), ("ann", 3))
        table.do((("remove", 2),))
        for row_id in (0, -1, 2, 4, 17, 10 ** 20):
            self.refused(table, (("set", row_id, "day", 1),), f"no row {row_id}")
            self.refused(table, (("remove", row_id),), f"no row {row_id}")
        self.refused(table, (("remove", 1), ("remove", 1)), "no row 1")
        self.refused(table, (("remove", 3), ("set", 3, "day", 1)), "no row 3")
        self.refused(table, (("set", 4, "day", 1), ("insert", ("ann", 1))), "no row 4")
        self.refused(self.table(), (("remove", 1),), "no row 1")

    def test_no_column(self):
        table = self.table(("ann", 1))
        for name in ("paid", "whos", "d", "", "size", "Day", "over"):
            self.refused(table, (("set", 1, name, 1),), f"no column {name}")

    def test_computed_column(self):
        table = self.table(("ann", 1))
        for value in (1, 2, None, "a", 10000):
            self.refused(table, (("set", 1, "size1", value),), "computed column size1")

    def test_kind(self):
        table = self.table(("ann", 1))
        for name, value in (
            ("who", 1), ("who", "abcdefg"), ("who", "A"), ("who", "a b"), ("who", "\u00e9"), ("who", True), ("who", -3),
            ("day", "a"), ("day", ""), ("day", 10000), ("day", -10000), ("day", "1"), ("day", True),
        ):
            self.refused(table, (("set", 1, name, value),), f"kind of {name}")

    def test_two_reasons_in_one_deed(self):
        table = self.table(*[("ann", day) for day in range(16)])
        self.refused(table, (("insert", (1, 1)),), "cells")
        self.refused(table, (("insert", ("ann",)),), "cells")
        self.refused(table, (("set", 17, "gone", 10000),), "no row 17")
        self.refused(table, (("set", 17, "size1", 1),), "no row 17")
        self.refused(table, (("set", 17, "day", "a"),), "no row 17")
        self.refused(table, (("set", 1, "gone", 10000),), "no column gone")
        self.refused(table, (("set", 1, "size1", 10000),), "computed column size1")

    def test_the_first_deed_that_is_refused_tells(self):
        table = self.table(("ann", 1))
        for ahead, reason in (
            (("insert", ("ann",)), "cells"), (("remove", 7), "no row 7"), (("set", 8, "day", 1), "no row 8"),
            (("set", 1, "gone", 1), "no column gone"), (("set", 1, "size1", 1), "computed column size1"),
            (("set", 1, "day", "a"), "kind of day"),
        ):
            for behind in (("insert", (1, 1)), ("remove", 9), ("set", 1, "who", 9), ("set", 1, "day", 5)):
                self.refused(table, (ahead, behind), reason)
                self.refused(table, (("set", 1, "day", 2), ahead, behind), reason)
                self.refused(table, (("insert", ("bob", 2)), ("remove", 1), ("insert", ("ann", 1)), ("set", 2, "day", 1),
                                     ahead if ahead[1] != 1 else (*ahead[:1], 3, *ahead[2:]), behind), reason)

    def test_nothing_to_do(self):
        self.refused(self.table(), (), "nothing to do")
        self.refused(self.table(("ann", 1)), (), "nothing to do")

    def test_too_many_versions(self):
        table = self.table()
        for day in range(29):
            self.assertEqual(table.versions(), day + 1)
            self.refused(table, (), "nothing to do")
            table.do((("insert", ("ann", day)), ("remove", day + 1)))
        self.assertEqual((table.version(), table.versions()), (29, 30))
        for deeds in ((), (("insert", ("ann", 1)),), (("insert", ()),), (("remove", 99),), (("set", 1, "size1", 1),)):
            self.refused(table, deeds, "too many versions")
        # Ahead of the last one there is place for one, and the one behind is dropped.
        table.back()
        self.refused(table, (), "nothing to do")
        self.refused(table, (("remove", 99),), "no row 99")
        self.assertEqual(table.do((("insert", ("bob", 1)),)), [("insert", 29, ("bob", 1, 1))])
        self.assertEqual((table.version(), table.versions()), (29, 30))
        self.refused(table, (("insert", ("ann", 1)),), "too many versions")

    def test_behind_back_and_refused(self):
        table = self.table(("ann", 1))
        table.do((("set", 1, "day", 2),))
        table.back()
        self.refused(table, (("remove", 2),), "no row 2")
        # What stands behind is still there.
        self.assertEqual(table.forth(), [("set", 1, 1, 1, 2)])

    def test_without_definitions(self):
        table = Table((("x", "integer"),), ())
        self.refused(table, (("set", 1, "x", 1),), "no row 1")
        self.assertEqual(table.do((("insert", (1,)),)), [("insert", 1, (1,))])
        self.refused(table, (("set", 1, "y", 1),), "no column y")
        self.assertEqual(table.worked(), ())


if __name__ == "__main__":
    unittest.main()
