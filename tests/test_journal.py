"""Journals, and tables made again from them (j1)."""

import copy
import inspect
import random
import unittest

import table_model
from windowtable import journal as journal_file
from windowtable.errors import BadDeed, BadDefinition, BadJournal, BadText
from windowtable.journal import deeds_text, replay
from windowtable.table import Table

COLUMNS = (("who", "text"), ("day", "integer"))
TEXTS = ("total = sum day over (partition who order day)", "place = rank over (order total descending)")
START = "do insert 'ann', 3; insert none, -12\n"


class JournalTestCase(unittest.TestCase):
    def state(self, table):
        return (table.rows(), table.version(), table.versions(), table.next_id(), table.worked(), table.journal(),
                table.columns(), table.definitions(), [table.since(version) for version in range(table.versions())])

    def refused(self, place, text, columns=COLUMNS, texts=TEXTS):
        with self.subTest(text=text[:300]):
            with self.assertRaises(BadJournal) as caught:
                replay(columns, texts, text)
            self.assertIs(type(caught.exception), BadJournal)
            self.assertEqual(caught.exception.place, place)


class WritingTest(JournalTestCase):
    DEEDS = (
        ((("insert", ("ann", 3)),), "insert 'ann', 3"),
        ((("insert", (None, None)),), "insert none, none"),
        ((("insert", ("", 0)),), "insert '', 0"),
        ((("insert", (-9999,)),), "insert -9999"),
        ((("insert", (9999, "abcdef", None, -1)),), "insert 9999, 'abcdef', none, -1"),
        ((("set", 12, "day", -5),), "set 12 day -5"),
        ((("set", 1, "who", None),), "set 1 who none"),
        ((("set", 1, "who", ""),), "set 1 who ''"),
        ((("set", 10, "a1", "none"),), "set 10 a1 'none'"),
        ((("remove", 7),), "remove 7"),
        ((("remove", 12345),), "remove 12345"),
        ((("insert", (1, "a")), ("set", 1, "x", 2), ("remove", 1), ("insert", (None, ""))),
         "insert 1, 'a'; set 1 x 2; remove 1; insert none, ''"),
    )

    def test_deeds_text(self):
        for deeds, wanted in self.DEEDS:
            with self.subTest(wanted):
                told = deeds_text(deeds)
                self.assertEqual(told, wanted)
                self.assertIs(type(told), str)

    def test_lines(self):
        table = Table(COLUMNS, TEXTS)
        self.assertEqual(table.journal(), "")
        wanted = ""
        for action, line in (
            (table.back, "back"), (table.forth, "forth"),
            (lambda: table.do((("insert", ("ann", 3)), ("insert", (None, -12)))), START[:-1]),
            (lambda: table.do((("set", 1, "who", ""),)), "do set 1 who ''"),
            (table.back, "back"), (table.back, "back"), (table.back, "back"), (table.forth, "forth"),
            (lambda: table.do((("set", 2, "day", None), ("remove", 1), ("insert", ("b", 0)))),
             "do set 2 day none; remove 1; insert 'b', 0"),
            (table.forth, "forth"),
            (lambda: table.do((("set", 2, "day", None),)), "do set 2 day none"),
        ):
            action()
            wanted += line + "\n"
            self.assertEqual(table.journal(), wanted)

    def test_no_line_of_a_refused_doing(self):
        table = Table(COLUMNS, TEXTS)
        table.do((("insert", ("ann", 3)), ("insert", (None, -12))))
        for deeds in ((), (("remove", 3),), (("set", 1, "day", 1), ("insert", ())), (("set", 1, "total", 1),)):
            with self.assertRaises(BadDeed):
                table.do(deeds)
            self.assertEqual(table.journal(), START)

    def test_asking_makes_no_line(self):
        table = Table(COLUMNS, TEXTS)
        table.do((("insert", ("ann", 3)), ("insert", (None, -12))))
        for action in (table.rows, table.worked, table.columns, table.definitions, table.version, table.versions,
                       table.next_id, table.journal, lambda: table.since(0), lambda: table.frame(1, "total"),
                       lambda: table.dependents(1, "total")):
            action()
        self.assertEqual(table.journal(), START)


class ReplayTest(JournalTestCase):
    def test_spelled_out(self):
        table = replay(COLUMNS, TEXTS, START + "back\nforth\ndo set 1 who ''; remove 2\nforth\n")
        self.assertIs(type(table), Table)
        self.assertEqual((table.rows(), table.version(), table.versions(), table.next_id()), (((1, ("", 3, 3, 1)),), 2, 3, 3))
        self.assertEqual((table.worked(), table.journal()), ((0, 0), START + "back\nforth\ndo set 1 who ''; remove 2\nforth\n"))
        self.assertEqual(self.state(replay(COLUMNS, TEXTS, "")), self.state(Table(COLUMNS, TEXTS)))

    def journal_of(self, seed):
        """The table, and its states behind each line, at first behind none."""
        dice = random.Random(seed)
        table = Table(COLUMNS, TEXTS)
        states = [self.state(table)]
        while len(states) < 25:
            try:
                if dice.random() < 0.7:
                    table.do(table_model.random_deeds(dice, COLUMNS, [row_id for row_id, _ in table.rows()]))
                else:
                    dice.choice((table.back, table.back, table.forth))()
            except BadDeed:
                continue
            states.append(self.state(table))
        return table, states

    def test_each_beginning(self):
        for seed in range(2):
            table, states = self.journal_of(seed)
            text = table.journal()
            for end in range(len(text) + 1):
                again = replay(COLUMNS, TEXTS, text[:end])
                self.assertEqual(self.state(again), states[text[:end].count("\n")], text[:end])

    def test_goes_on_as_the_first_one(self):
        for seed in range(2, 12):
            table, _ = self.journal_of(seed)
            again = replay(COLUMNS, TEXTS, table.journal())
            self.assertEqual(self.state(again), self.state(table))
            dice = random.Random(-seed)
            for _ in range(15):
                deeds = table_model.random_deeds(dice, COLUMNS, [row_id for row_id, _ in table.rows()])
                for word, arguments in (("do", (deeds,)), ("back", ()), ("forth", ())):
                    told = []
                    for one in (table, again):
                        try:
                            told.append(getattr(one, word)(*arguments))
                        except BadDeed as error:
                            told.append(error.reason)
                    self.assertEqual(told[0], told[1])
                    self.assertEqual(self.state(again), self.state(table))

    def test_each_value(self):
        columns = (("i", "integer"), ("t", "text"))
        for value in (None, 0, 1, -1, 10, -10, 999, 9999, -9999):
            table = Table(columns, ())
            table.do((("insert", (value, None)), ("set", 1, "i", value)))
            self.assertEqual(self.state(replay(columns, (), table.journal())), self.state(table))
        for value in (None, "", "a", "none", "abcdef", "back", "insert"):
            table = Table(columns, ())
            table.do((("insert", (None, value)), ("set", 1, "t", value)))
            self.assertEqual(self.state(replay(columns, (), table.journal())), self.state(table))

    def test_long_ids(self):
        line = "do " + "; ".join(f"insert '', {n % 10000}; remove {n}" for n in range(1, 10050)) + "; insert 'a', 1\n"
        table = replay(COLUMNS, (), line)
        self.assertEqual((table.rows(), table.journal()), (((10050, ("a", 1)),), line))
        self.assertEqual(replay(COLUMNS, (), line + "do set 10050 day 2; remove 10050\n").rows(), ())

    def test_a_line_without_its_newline_is_not_looked_at(self):
        for rest in ("d", "do", "do ", "do insert", "do insert 'ann', 3", "back", "forth", "nonsense", "do remove 9", "\t", " "):
            self.assertEqual(self.state(replay(COLUMNS, TEXTS, START + rest)), self.state(replay(COLUMNS, TEXTS, START)))
            self.assertEqual(self.state(replay(COLUMNS, TEXTS, rest)), self.state(Table(COLUMNS, TEXTS)))


class RefusedTest(JournalTestCase):
    LINES = (
        # No line at all, other words, other spaces.
        "", " ", "do", "do ", "undo", "Back", "FORTH", "back ", " back", "forth ", "back 1", "back; forth", "back;", "do back",
        "doinsert 'a', 1", "do  insert 'a', 1", " do insert 'a', 1", "do insert 'a', 1 ", "do\tinsert 'a', 1", "back\r",
        "do insert  'a', 1", "do insert 'a',1", "do insert 'a' , 1", "do insert 'a',  1", "do insert 'a', 1;", "do insert 'a', 1; ",
        "do insert 'a', 1;remove 1", "do insert 'a', 1 ; remove 1", "do insert 'a', 1;  remove 1", "do ; insert 'a', 1",
        "do insert 'a', 1\r", "do Insert 'a', 1", "do insert('a', 1)", "do insert", "do insert ", "insert 'a', 1", "do 'a', 1",
        "do put 'a', 1", "do put 1 day 1", "do  1 day 1", "do day 1", "do put 1", "do insert 1 day 1", "do remove 1 day 1",
        "do remove", "do remove ", "do remove  1", "do remove 1 ", "do remove 1 2", "do remove 1, 2", "do remove a",
        "do remove 'a'", "do remove none", "do remove +1", "do remove 01", "do remove 1.0", "do set", "do set 1", "do set 1 day",
        "do set 1 day ", "do set 1 day  1", "do set 1  day 1", "do set  1 day 1", "do set 1 day 1 ", "do set 1 day 1 1",
        "do set 01 day 1", "do set a day 1", "do set day 1 1", "do set 1 day = 1", "do set 1, day, 1", "do set 1 'day' 1",
        "do insert 'a', 1; back", "do insert 'a', 1; ; remove 1", "do set\t1 day 1", "do delete 1", "do remove1", "do set1 day 1",
        # No values.
        "do set 1 day 01", "do set 1 day -0", "do set 1 day 00", "do set 1 day +1", "do set 1 day --1", "do set 1 day - 1",
        "do set 1 day 1_0", "do set 1 day None", "do set 1 day nothing", "do set 1 day NONE", "do set 1 day -none", "do set 1 day 0x1",
        "do set 1 day -", "do set 1 day 1e3", "do set 1 day ''", "do set 1 day 'a'", "do set 1 day 10000", "do set 1 day -10000",
        "do set 1 day -01", "do set 1 day \u0661", "do set 1 day \u00b2", "do set 1 day " + "9" * 5000, "do set 1 day true",
        "do set 1 who a", "do set 1 who 'a", "do set 1 who a'", "do set 1 who '", "do set 1 who '''", "do set 1 who 'a'b'",
        "do set 1 who \"a\"", "do set 1 who 'A'", "do set 1 who 'a b'", "do set 1 who 'a1'", "do set 1 who 'abcdefg'", "do set 1 who 1",
        "do set 1 who '\u00e4'", "do set 1 who ' '", "do set 1 who ';'", "do set 1 who ', '", "do set 1 who '; '",
        "do insert 'a', 01", "do insert a, 1", "do insert 'a', -0", "do insert None, 1", "do insert 'A', 1", "do insert 'a, b', 1",
        "do insert 'abcdefg', 1", "do insert 'a', 10000", "do insert 'a', ", "do insert , 1", "do insert 'a', 1,", "do insert 'a'; 1",
        # Deeds that cannot be done.
        "do insert 'a'", "do insert 'a', 1, 1", "do insert 1, 'a'", "do insert 1", "do insert none", "do remove 3", "do remove 0",
        "do remove -1", "do remove " + "1" * 19, "do remove " + "9" * 5000, "do set 3 day 1", "do set 0 day 1", "do set -1 day 1",
        "do set 1 paid 1", "do set 1 total 1", "do set 1 place none", "do set 1 day", "do set " + "9" * 5000 + " day 1",
        "do remove 1; remove 1", "do set 1 day 2; set 1 day 'a'", "do insert 'a', 1; remove 4", "do remove \u0661", "do remove \u00b9",
        "do " + "; ".join(["insert 'a', 1"] * 17),
    )

    def test_as_the_first_line_behind_some_and_ahead_of_others(self):
        for line in self.LINES:
            self.refused(2, START + line + "\n")
            self.refused(4, START + "back\nforth\n" + line + "\n")
            self.refused(2, START + line + "\n" + START)
            self.refused(1, line + "\n")
            self.refused(3, START + "do set 1 day 3\n" + line + "\n" + line + "\nnonsense\nmore")

    def test_the_lines_around_are_right(self):
        for line in ("do insert 'a', 1", "do insert 'a', 1; remove 3", "do set 1 day none", "do set 2 who ''", "do remove 1; remove 2",
                     "do " + "; ".join(["insert 'a', 1"] * 14), "back", "forth"):
            self.assertEqual(replay(COLUMNS, TEXTS, START + line + "\n").journal(), START + line + "\n")

    def test_too_many_versions(self):
        text = START + "do remove 1\n" + "do set 2 day 1\n" * 27
        self.assertEqual(replay(COLUMNS, TEXTS, text).versions(), 30)
        self.refused(30, text + "do set 2 day 1\n")
        self.refused(30, text + "do set 9 day 1\n")
        self.assertEqual(replay(COLUMNS, TEXTS, text + "back\ndo set 2 day 1\n").versions(), 30)

    def test_too_many_rows(self):
        self.refused(2, START + "do " + "; ".join(["insert 'a', 1"] * 15) + "\n")

    def test_empty_lines(self):
        self.refused(1, "\n")
        self.refused(1, "\n" + START)
        self.refused(2, START + "\n")
        self.refused(2, START + "\nback\n")

    def test_bad_columns(self):
        with self.assertRaises(BadText) as caught:
            replay(COLUMNS, (TEXTS[0], "t = sum over ()"), "nonsense\n")
        self.assertEqual((caught.exception.token, caught.exception.reason), (4, "unexpected token"))
        with self.assertRaises(BadDefinition) as caught:
            replay(COLUMNS, TEXTS[::-1], "nonsense\n")
        self.assertEqual((caught.exception.number, caught.exception.reason), (0, "unknown column total"))
        # With other columns than those of its table a journal can be refused.
        self.refused(1, START, columns=COLUMNS[::-1], texts=())


class ArgumentsTest(unittest.TestCase):
    def test_names_of_arguments(self):
        self.assertEqual(list(inspect.signature(journal_file.deeds_text).parameters), ["deeds"])
        self.assertEqual(list(inspect.signature(journal_file.replay).parameters), ["columns", "definitions", "text"])
        for function in (deeds_text, replay):
            self.assertEqual(function.__module__, "windowtable.journal")

    def test_arguments_stay_as_they_were(self):
        deeds = (("insert", ("a", 1)), ("remove", 1))
        before = copy.deepcopy(deeds)
        deeds_text(deeds)
        self.assertEqual(deeds, before)


if __name__ == "__main__":
    unittest.main()
