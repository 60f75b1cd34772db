"""What views show, moves, and screens (u6 to u8)."""

import copy
import inspect
import itertools
import random
import unittest

import model
import table_model
from windowtable import views as views_file
from windowtable.conditions import holds, parse_view
from windowtable.errors import BadArgument, BadDeed, BadFit, BadText
from windowtable.table import Table
from windowtable.views import Screen, moved_by, moves, shown

COLUMNS = (("who", "text"), ("day", "integer"), ("paid", "integer"))
ROWS = ((1, ("ann", 1, 10)), (2, ("bob", 1, 7)), (3, ("ann", 4, None)), (5, (None, None, 7)), (8, ("cid", 2, 7)))
TEXTS = ("total = sum paid over (partition who order day)", "place = rank over (order total descending)")


def slow_moves(first, second):
    """u7, step by step."""
    line, told = list(first), []
    for place in range(len(line) - 1, -1, -1):
        if line[place][0] not in [row_id for row_id, _ in second]:
            told.append(("out", place))
            del line[place]
    for place, (row_id, cells) in enumerate(second):
        ids = [other for other, _ in line]
        if row_id not in ids:
            told.append(("in", place, row_id, cells))
            line.insert(place, (row_id, cells))
            continue
        if ids[place] != row_id:
            told.append(("go", ids.index(row_id), place))
            line.insert(place, line.pop(ids.index(row_id)))
        if line[place][1] != cells:
            told.append(("cells", place, cells))
            line[place] = (row_id, cells)
    return told


class ShownTest(unittest.TestCase):
    def test_spelled_out(self):
        for text, wanted in (
            ("show who", ((1, ("ann",)), (2, ("bob",)), (3, ("ann",)), (5, (None,)), (8, ("cid",)))),
            ("show paid, who, paid first 2", ((1, (10, "ann", 10)), (2, (7, "bob", 7)))),
            ("show day order paid", ((3, (4,)), (2, (1,)), (5, (None,)), (8, (2,)), (1, (1,)))),
            ("show day order paid descending", ((1, (1,)), (2, (1,)), (5, (None,)), (8, (2,)), (3, (4,)))),
            ("show day order who descending, day descending",
             ((8, (2,)), (2, (1,)), (3, (4,)), (1, (1,)), (5, (None,)))),
            ("show who where paid = 7 order day descending", ((8, ("cid",)), (2, ("bob",)), (5, (None,)))),
            ("show who where paid = 7 order day descending first 1", ((8, ("cid",)),)),
            ("show who where not paid > 7", ((2, ("bob",)), (3, ("ann",)), (5, (None,)), (8, ("cid",)))),
            ("show who where paid < 7", ()),
            ("show who, day where who = 'ann' first 9999", ((1, ("ann", 1)), (3, ("ann", 4)))),
            ("show who order day first 4", ((5, (None,)), (1, ("ann",)), (2, ("bob",)), (8, ("cid",)))),
        ):
            for rows in itertools.permutations(ROWS):
                told = shown(parse_view(text), COLUMNS, rows)
                self.assertEqual(told, wanted, text)
            self.assertEqual({type(part) for pair in (told, *told) for part in (pair, *pair) if pair} - {tuple, int}, set())
            self.assertIs(type(told), tuple)
            self.assertEqual(shown(parse_view(text), COLUMNS, ()), ())

    def test_the_number_counts_rows_for_which_the_condition_holds(self):
        self.assertEqual(shown(parse_view("show who where paid = 7 first 2"), COLUMNS, ROWS), ((2, ("bob",)), (5, (None,))))

    def test_columns_that_are_not_shown(self):
        view = parse_view("show who where day > 1 order paid")
        self.assertEqual(shown(view, COLUMNS, ROWS), ((3, ("ann",)), (8, ("cid",))))

    def test_at_random(self):
        dice = random.Random(1)
        for _ in range(400):
            rows = tuple((i, (dice.choice(("a", "b", None)), dice.choice((1, 2, None)), dice.choice((1, 2))))
                         for i in dice.sample(range(1, 20), dice.randrange(9)))
            names = tuple(dice.choice(("who", "day", "paid")) for _ in range(dice.randrange(1, 4)))
            keys = tuple((dice.choice(("who", "day", "paid")), dice.random() < 0.5) for _ in range(dice.randrange(3)))
            condition = dice.choice((None, ("none", "day"), ("not", ("=", "day", ("name", "paid")))))
            most = dice.choice((None, 1, 3))
            numbers = {"who": 0, "day": 1, "paid": 2}
            line = model.order(rows, tuple((numbers[name], down) for name, down in keys))
            wanted = [(i, tuple(cells[numbers[name]] for name in names)) for i, cells in line if holds(condition, COLUMNS, cells)]
            self.assertEqual(shown((names, condition, keys, most), COLUMNS, rows), tuple(wanted[:most]))


class MovesTest(unittest.TestCase):
    # Pairs of a row are told by an id and one letter.
    def row(self, text):
        return tuple((int(part[0]), (part[1:],)) for part in text.split())

    def test_spelled_out(self):
        for first, second, wanted in (
            ("", "", []),
            ("1a 2b", "1a 2b", []),
            ("", "3a 1b", [("in", 0, 3, ("a",)), ("in", 1, 1, ("b",))]),
            ("1a 2b 3c", "", [("out", 2), ("out", 1), ("out", 0)]),
            ("1a 2b 3c", "2b", [("out", 2), ("out", 0)]),
            ("1a 2b 3c", "1a 3c", [("out", 1)]),
            ("1a 2b", "2b 1a", [("go", 1, 0)]),
            ("1a 2b 3c", "2b 3c 1a", [("go", 1, 0), ("go", 2, 1)]),
            ("1a 2b 3c", "3c 1a 2b", [("go", 2, 0)]),
            ("1a 2b 3c 4d", "4d 3c 2b 1a", [("go", 3, 0), ("go", 3, 1), ("go", 3, 2)]),
            ("1a 2b", "1z 2b", [("cells", 0, ("z",))]),
            ("1a 2b", "2z 1y", [("go", 1, 0), ("cells", 0, ("z",)), ("cells", 1, ("y",))]),
            ("1a 2b", "5x 1a 6y 2b", [("in", 0, 5, ("x",)), ("in", 2, 6, ("y",))]),
            ("1a 2b 3c", "3c 1z 4d", [("out", 1), ("go", 1, 0), ("cells", 1, ("z",)), ("in", 2, 4, ("d",))]),
            ("1a 2b", "3c 2b", [("out", 0), ("in", 0, 3, ("c",))]),
        ):
            with self.subTest(first=first, second=second):
                told = moves(self.row(first), self.row(second))
                self.assertEqual(told, wanted)
                self.assertIs(type(told), list)
                self.assertEqual(moved_by(self.row(first), told), self.row(second))

    def test_all_small_rows(self):
        rows = []
        for many in range(4):
            for ids in itertools.permutations((1, 2, 3, 4), many):
                rows += [tuple(zip(ids, cells)) for cells in ([(0,)] * many, [(place,) for place in range(many)])]
        for first, second in itertools.product(rows, repeat=2):
            told = moves(first, second)
            self.assertEqual(told, slow_moves(first, second))
            self.assertEqual(moved_by(first, told), second)

    def test_long_rows(self):
        dice = random.Random(2)
        for _ in range(300):
            first, second = [tuple((i, (dice.choice((None, 1, "a")),)) for i in dice.sample(range(1, 18), dice.randrange(17)))
                             for _ in range(2)]
            told = moves(first, second)
            self.assertEqual(told, slow_moves(first, second))
            self.assertEqual(moved_by(first, told), second)
            self.assertEqual(moves(first, first), [])

    def test_arguments_stay_as_they_were(self):
        first, second = self.row("1a 2b 3c"), self.row("3c 1z 4d")
        told = moves(first, second)
        before = copy.deepcopy((first, second, told))
        moved_by(first, told)
        self.assertEqual((first, second, told), before)
        told.append(("out", 0))
        self.assertEqual(moves(first, second), before[2])


class MovedByTest(unittest.TestCase):
    ROW = ((1, ("a",)), (2, ("b",)), (3, ("c",)))

    def refused(self, row, told):
        with self.subTest(moves=told):
            with self.assertRaises(BadFit) as caught:
                moved_by(row, told)
            self.assertIs(type(caught.exception), BadFit)

    def test_each_move(self):
        a, b, c = self.ROW
        d = (4, ("d",))
        for move, wanted in (
            (("out", 0), (b, c)), (("out", 1), (a, c)), (("out", 2), (a, b)),
            (("in", 0, *d), (d, a, b, c)), (("in", 2, *d), (a, b, d, c)), (("in", 3, *d), (a, b, c, d)),
            (("go", 0, 2), (b, c, a)), (("go", 2, 0), (c, a, b)), (("go", 0, 1), (b, a, c)), (("go", 1, 1), (a, b, c)),
            (("go", 1, 2), (a, c, b)), (("go", 1, 0), (b, a, c)),
            (("cells", 0, ("z",)), ((1, ("z",)), b, c)), (("cells", 2, ("c",)), (a, b, c)),
        ):
            with self.subTest(move=move):
                told = moved_by(self.ROW, [move])
                self.assertEqual(told, wanted)
                self.assertIs(type(told), tuple)
        self.assertEqual(moved_by(self.ROW, []), self.ROW)
        self.assertEqual(moved_by((), []), ())
        self.assertEqual(moved_by((), [("in", 0, 9, ())]), ((9, ()),))

    def test_one_behind_the_other(self):
        told = moved_by(self.ROW, [("out", 0), ("in", 2, 1, ("z",)), ("go", 2, 0), ("cells", 1, ("y",)), ("out", 2)])
        self.assertEqual(told, ((1, ("z",)), (2, ("y",))))

    def test_places_that_are_none(self):
        d = (4, ("d",))
        for move in (
            ("out", 3), ("out", -1), ("out", 100), ("in", 4, *d), ("in", -1, *d), ("in", 100, *d), ("go", 3, 0), ("go", -1, 0),
            ("go", 0, 3), ("go", 0, -1), ("go", 1, 100), ("go", -1, -1), ("cells", 3, ("z",)), ("cells", -1, ("z",)),
        ):
            self.refused(self.ROW, [move])
            self.refused(self.ROW, [("go", 0, 1), move, ("go", 0, 1)])
        for move in (("out", 0), ("go", 0, 0), ("cells", 0, ()), ("in", 1, *d), ("in", -1, *d)):
            self.refused((), [move])
        self.refused(self.ROW, [("out", 0), ("out", 2)])
        self.refused(self.ROW, [("out", 0), ("in", 3, *d)])

    def test_an_id_that_is_there(self):
        for row_id in (1, 2, 3):
            for place in range(4):
                self.refused(self.ROW, [("in", place, row_id, ("z",))])
        self.refused(self.ROW, [("in", 0, 4, ("d",)), ("in", 0, 4, ("d",))])
        self.refused(self.ROW, [("out", 0), ("in", 0, 2, ("z",))])
        self.assertEqual(moved_by(self.ROW, [("out", 0), ("in", 2, 1, ("z",))])[2], (1, ("z",)))


class ScreenTest(unittest.TestCase):
    def test_spelled_out(self):
        table = Table(COLUMNS, TEXTS)
        screen = Screen(table, "show who, total where not total is none order total descending first 2")
        self.assertEqual((screen.last(), screen.tell(), screen.last()), ((), [], ()))
        table.do((("insert", ("ann", 1, 10)), ("insert", ("bob", 1, 7)), ("insert", ("ann", 4, None))))
        self.assertEqual(screen.last(), ())
        self.assertEqual(screen.tell(), [("in", 0, 1, ("ann", 10)), ("in", 1, 3, ("ann", 10))])
        self.assertEqual(screen.last(), ((1, ("ann", 10)), (3, ("ann", 10))))
        self.assertEqual(screen.tell(), [])
        table.do((("set", 2, "paid", 20),))
        self.assertEqual(screen.last(), ((1, ("ann", 10)), (3, ("ann", 10))))
        self.assertEqual(screen.tell(), [("out", 1), ("in", 0, 2, ("bob", 20))])
        table.do((("set", 3, "paid", 30), ("set", 1, "paid", None)))
        self.assertEqual(screen.tell(), [("out", 1), ("in", 0, 3, ("ann", 30))])
        table.back()
        table.back()
        self.assertEqual(screen.tell(), [("out", 1), ("in", 0, 1, ("ann", 10)), ("cells", 1, ("ann", 10))])
        table.back()
        self.assertEqual(screen.tell(), [("out", 1), ("out", 0)])
        self.assertEqual(screen.last(), ())

    def test_made_later(self):
        table = Table(COLUMNS, TEXTS)
        table.do((("insert", ("ann", 1, 10)),))
        screen = Screen(table, "show paid")
        self.assertEqual(screen.last(), ())
        self.assertEqual(screen.tell(), [("in", 0, 1, (10,))])

    def test_led_by_a_table(self):
        for seed, text in enumerate((
            "show who, place order place, who descending", "show total where total > 2 or who = 'a' order day first 3", "show paid",
            "show who, day, paid, total, place where not (day is none and who < 'b') order total descending first 5",
        )):
            dice = random.Random(seed)
            table = Table(COLUMNS, TEXTS)
            screen, sometimes = Screen(table, text), Screen(table, text)
            now, then = (), ()
            for turn in range(40):
                try:
                    if dice.random() < 0.7:
                        table.do(table_model.random_deeds(dice, COLUMNS, [row_id for row_id, _ in table.rows()]))
                    else:
                        dice.choice((table.back, table.forth))()
                except BadDeed:
                    table.back()
                self.assertEqual(screen.last(), now)
                told = screen.tell()
                self.assertEqual(moved_by(now, told), shown(parse_view(text), table.columns(), table.rows()))
                self.assertEqual(told, slow_moves(now, screen.last()))
                now = moved_by(now, told)
                self.assertEqual((screen.last(), screen.tell()), (now, []))
                if turn % 5 == 4:
                    self.assertEqual(sometimes.last(), then)
                    then = moved_by(then, sometimes.tell())
                    self.assertEqual((then, sometimes.last()), (now, now))

    def test_refused(self):
        table = Table(COLUMNS, TEXTS)
        for text, token, reason in (("show", 2, "unexpected end"), ("show who where who is", 6, "unexpected end"),
                                    ("show who,", 4, "unexpected end"), ("show sum", 2, "unexpected token"), (" " * 201, 0, "text too long"),
                                    ("show who where " + " or ".join(["day=1"] * 13), 0, "condition too large"),
                                    ("show gone where", 4, "unexpected end")):
            with self.subTest(text), self.assertRaises(BadText) as caught:
                Screen(table, text)
            self.assertEqual((caught.exception.token, caught.exception.reason), (token, reason))
        for text, reason in (("show gone", "unknown column gone"), ("show who where day = 'a'", "kinds of day"),
                             ("show who where who = total", "kinds of who"), ("show who order places", "unknown column places")):
            with self.subTest(text), self.assertRaises(BadArgument) as caught:
                Screen(table, text)
            self.assertIs(type(caught.exception), BadArgument)
            self.assertEqual(caught.exception.reason, reason)

    def test_what_is_told_is_new_each_time(self):
        table = Table(COLUMNS, TEXTS)
        screen = Screen(table, "show paid")
        table.do((("insert", ("ann", 1, 10)),))
        told = screen.tell()
        told.append("more")
        self.assertEqual(screen.tell(), [])
        table.back()
        self.assertEqual(screen.tell(), [("out", 0)])
        self.assertEqual(told, [("in", 0, 1, (10,)), "more"])


class ArgumentsTest(unittest.TestCase):
    def test_names_of_arguments(self):
        for name, names in (("shown", ["view", "columns", "rows"]), ("moves", ["first", "second"]), ("moved_by", ["first", "moves"]),
                            ("Screen", ["table", "text"])):
            self.assertEqual(list(inspect.signature(getattr(views_file, name)).parameters), names)
        for name in ("tell", "last"):
            self.assertIn(name, vars(Screen))


if __name__ == "__main__":
    unittest.main()
