"""Cell papers and change papers (q1 to q4)."""

import copy
import inspect
import itertools
import random
import unittest

import model
import table_model
from windowtable import papers as papers_file
from windowtable.changes import between
from windowtable.columns import evaluate
from windowtable.errors import BadPaper
from windowtable.papers import cell_paper, change_paper, check_cell, check_change
from windowtable.reading import parse_definition

COLUMNS = (("who", "text"), ("x", "integer"))
BASE = (
    (1, ("a", 3)), (2, ("a", 1)), (3, ("b", 2)), (4, ("a", 3)), (5, (None, None)),
    (6, ("a", None)), (7, ("b", 2)), (9, ("a", 5)),
)
HEADS = ("number", "rank", "dense", "size", "tile 2", "lag x 1", "lead who 2", "lag who 0", "nth x 2", "count who", "count x",
         "different x", "sum x", "least who", "greatest x", "median x", "first who", "last x")
INSIDES = (
    "", "order x", "partition who order x descending", "partition who order x rows 1 before to 1 after without current",
    "order x groups current to 1 after without ties", "order x range 1 before to current without group",
    "partition who rows 2 after to end", "order who, x rows 3 after to 3 after",
    "partition x, who order who range start to current without current",
)


def definitions_of(*texts):
    return tuple(parse_definition(text) for text in texts)


class PapersTestCase(unittest.TestCase):
    def refused(self, number, action, *arguments):
        with self.subTest(arguments=arguments[-2:]):
            with self.assertRaises(BadPaper) as caught:
                action(*arguments)
            self.assertIs(type(caught.exception), BadPaper)
            self.assertEqual(caught.exception.number, number)


class CellPaperTest(PapersTestCase):
    def papers_of(self, text, *ids):
        definitions = definitions_of(text)
        rows = evaluate(COLUMNS, definitions, BASE)
        return [cell_paper(COLUMNS, definitions, rows, row_id, 0)[2:] for row_id in ids]

    def test_example_of_the_document(self):
        columns = (("x", "integer"),)
        definitions = definitions_of("s = sum x over (order x rows 1 before to current)")
        rows = evaluate(columns, definitions, ((1, (4,)), (2, (1,)), (3, (4,))))
        self.assertEqual(cell_paper(columns, definitions, rows, 1, 0), (1, 0, (2, 1, 3), (1, 2), (2, 1), (1, 4), 5))

    def test_spelled_out(self):
        order, sizes = (6, 2, 1, 4, 9), (1, 1, 2, 1)
        for head, wanted in (
            ("number", ((), (), 3)),
            ("rank", ((), (), 3)),
            ("dense", ((), (), 3)),
            ("tile 2", ((), (), 1)),
            ("lag x 1", ((), (1,), 1)),
            ("lag x 2", ((), (None,), None)),
            ("lag x 3", ((), (), None)),
            ("lead x 2", ((), (5,), 5)),
            ("lead x 3", ((), (), None)),
            ("lead who 0", ((), ("a",), "a")),
            ("size", ((6, 2, 1, 4), (), 4)),
            ("count x", ((6, 2, 1, 4), (None, 1, 3, 3), 3)),
            ("different x", ((6, 2, 1, 4), (None, 1, 3, 3), 2)),
            ("sum x", ((6, 2, 1, 4), (None, 1, 3, 3), 7)),
            ("least x", ((6, 2, 1, 4), (None, 1, 3, 3), 1)),
            ("greatest x", ((6, 2, 1, 4), (None, 1, 3, 3), 3)),
            ("median x", ((6, 2, 1, 4), (None, 1, 3, 3), 3)),
            ("first x", ((6, 2, 1, 4), (None, 1, 3, 3), None)),
            ("last x", ((6, 2, 1, 4), (None, 1, 3, 3), 3)),
            ("nth x 2", ((6, 2, 1, 4), (None, 1, 3, 3), 1)),
            ("nth who 5", ((6, 2, 1, 4), ("a", "a", "a", "a"), None)),
        ):
            with self.subTest(head):
                told, = self.papers_of(f"t = {head} over (partition who order x)", 1)
                self.assertEqual(told, (order, sizes, *wanted))

    def test_empty_frames_and_exclusions(self):
        for text, row_id, wanted in (
            ("t = sum x over (partition who order x rows 1 after to 2 after)", 9, ((6, 2, 1, 4, 9), (1, 1, 2, 1), (), (), None)),
            ("t = size over (partition who order x rows 1 after to 2 after)", 9, ((6, 2, 1, 4, 9), (1, 1, 2, 1), (), (), 0)),
            ("t = sum x over (partition who order x range start to current without current)", 4,
             ((6, 2, 1, 4, 9), (1, 1, 2, 1), (6, 2, 1), (None, 1, 3), 4)),
            ("t = count x over (partition who order x range 2 before to 2 after without group)",
             4, ((6, 2, 1, 4, 9), (1, 1, 2, 1), (2, 9), (1, 5), 2)),
            ("t = last x over (partition who order x descending groups current to 1 after without ties)",
             4, ((9, 1, 4, 2, 6), (1, 2, 1, 1), (4, 2), (3, 1), 1)),
            ("t = first who over ()", 5, ((1, 2, 3, 4, 5, 6, 7, 9), (8,), (1, 2, 3, 4, 5, 6, 7, 9),
                                          ("a", "a", "b", "a", None, "a", "b", "a"), "a")),
            ("t = lag x 1 over (partition who)", 5, ((5,), (1,), (), (), None)),
        ):
            with self.subTest(text):
                self.assertEqual(self.papers_of(text, row_id), [wanted])

    def test_the_definition_is_told_by_its_number(self):
        definitions = definitions_of("a = size over (partition who)", "b = rank over (order a)", "c = sum b over (partition a)")
        rows = evaluate(COLUMNS, definitions, BASE)
        self.assertEqual(cell_paper(COLUMNS, definitions, rows, 3, 1), (3, 1, (5, 3, 7, 1, 2, 4, 6, 9), (1, 2, 5), (), (), 2))
        self.assertEqual(cell_paper(COLUMNS, definitions, rows, 7, 2), (7, 2, (3, 7), (2,), (3, 7), (2, 2), 4))

    def test_against_the_model(self):
        for head, inside in itertools.product(HEADS, INSIDES):
            definitions = definitions_of(f"t = {head} over ({inside})")
            _, function, column, number, partition, order, frame = definitions[0]
            rows = evaluate(COLUMNS, definitions, BASE)
            names = ["who", "x"]
            keys = tuple((names.index(name), down) for name, down in order)
            for row in rows:
                line = model.order(model.partition(rows, [names.index(name) for name in partition], row), keys)
                place = line.index(row)
                numbers = [model.group_of(line, keys, at) for at in range(len(line))]
                by_place = function in ("number", "rank", "dense", "tile", "lag", "lead")
                frame_ids = () if by_place else tuple(line[at][0] for at in model.frame(line, keys, frame, place))
                looked = {"lag": [place - (number or 0)], "lead": [place + (number or 0)]}.get(
                    function, [[other[0] for other in line].index(row_id) for row_id in frame_ids])
                used = tuple(line[at][1][names.index(column)] for at in looked if at in range(len(line))) if column else ()
                wanted = (row[0], 0, tuple(other[0] for other in line),
                          tuple(numbers.count(group) for group in range(numbers[-1] + 1)), frame_ids, used, row[1][2])
                for some in (rows, rows[::-1]):
                    told = cell_paper(COLUMNS, definitions, some, row[0], 0)
                    self.assertEqual(told, wanted, (head, inside))
                    self.assertIsNone(check_cell(COLUMNS, definitions, some, told))
                self.assertEqual({type(part) for part in told[2:6]}, {tuple})


class CheckCellTest(PapersTestCase):
    def setUp(self):
        self.definitions = definitions_of(
            "s = sum x over (partition who order x groups 1 before to 1 after without current)", "r = rank over (order s)",
            "l = lead x 1 over (partition who order x descending)")
        self.rows = evaluate(COLUMNS, self.definitions, BASE)

    def wrong(self, number, paper, rows=None):
        self.refused(number, check_cell, COLUMNS, self.definitions, self.rows if rows is None else rows, paper)

    def paper(self, row_id, number):
        paper = cell_paper(COLUMNS, self.definitions, self.rows, row_id, number)
        self.assertIsNone(check_cell(COLUMNS, self.definitions, self.rows, paper))
        return paper

    def changed(self, paper, place, part):
        return paper[:place] + (part,) + paper[place + 1:]

    def test_the_paper_of_all_tests_here(self):
        self.assertEqual(self.paper(1, 0), (1, 0, (6, 2, 1, 4, 9), (1, 1, 2, 1), (2, 4, 9), (1, 3, 5), 9))

    def test_row_or_definition_not_there(self):
        paper = self.paper(1, 0)
        for row_id in (0, -1, 8, 10):
            self.wrong(1, self.changed(paper, 0, row_id))
        for number in (-1, -3, 3, 4, 100):
            self.wrong(1, self.changed(paper, 1, number))
        self.refused(1, check_cell, COLUMNS, (), BASE, paper)
        self.refused(1, check_cell, COLUMNS, self.definitions, (), paper)

    def test_order(self):
        paper = self.paper(1, 0)
        for order in (
            (), (1,), (6, 2, 1, 4), (2, 1, 4, 9), (6, 2, 1, 4, 9, 3), (5, 6, 2, 1, 4, 9), (6, 2, 1, 4, 9, 9), (6, 2, 1, 1, 4, 9),
            (6, 2, 4, 1, 9), (2, 6, 1, 4, 9), (9, 4, 1, 2, 6), (1, 2, 4, 6, 9), (6, 2, 1, 9, 4), (6, 2, 1, 4, 8), (6, 2, 1, 4, 3),
            (6, 2, 1, 4, 4),
        ):
            self.wrong(2, self.changed(paper, 2, order))

    def test_groups(self):
        paper = self.paper(1, 0)
        for sizes in (
            (), (5,), (1, 1, 1, 1, 1), (2, 2, 1), (1, 1, 3), (1, 3, 1), (1, 1, 2), (1, 1, 2, 2), (1, 1, 2, 1, 0), (0, 1, 1, 2, 1),
            (1, 1, 2, 0, 1), (1, 1, 2, 1, 1), (1, 1, 3, -1, 1), (1, 2, 1, 1), (1, 1, 1, 2), (2, 1, 1, 1),
        ):
            self.wrong(3, self.changed(paper, 3, sizes))

    def test_frame(self):
        paper = self.paper(1, 0)
        for frame in ((), (2,), (2, 4), (4, 9), (2, 1, 4, 9), (6, 2, 4, 9), (2, 4, 9, 9), (4, 2, 9), (2, 9, 4), (2, 4, 8), (2, 4, 3)):
            self.wrong(4, self.changed(paper, 4, frame))
        # Functions that go by places have no frame here.
        for number in (1, 2):
            paper = self.paper(1, number)
            self.assertEqual(paper[4], ())
            self.wrong(4, self.changed(paper, 4, (1,)))
            self.wrong(4, self.changed(paper, 4, paper[2]))

    def test_used(self):
        paper = self.paper(1, 0)
        for used in ((), (1, 3), (1, 3, 5, 5), (3, 1, 5), (1, 3, 6), (1, 3, None), (None, 1, 3, 5), (1, 3, "a"), (9,)):
            self.wrong(5, self.changed(paper, 5, used))
        self.wrong(5, self.changed(self.paper(1, 1), 5, (9,)))
        paper = self.paper(2, 2)
        self.assertEqual(paper[2:], ((9, 1, 4, 2, 6), (1, 2, 1, 1), (), (None,), None))
        for used in ((), (1,), (None, None), (3,)):
            self.wrong(5, self.changed(paper, 5, used))
        paper = self.paper(6, 2)
        self.assertEqual(paper[5:], ((), None))
        self.wrong(5, self.changed(paper, 5, (None,)))

    def test_value(self):
        for row_id, number in ((1, 0), (1, 1), (1, 2), (6, 2), (5, 0)):
            paper = self.paper(row_id, number)
            for value in (None, 0, 1, 7, 8, 10, -9, "a", ""):
                if value != paper[6]:
                    self.wrong(6, self.changed(paper, 6, value))

    def test_a_right_value_that_does_not_stand_in_the_cell(self):
        for number in (0, 1, 2):
            paper = self.paper(1, number)
            for value in (None, 100, "a"):
                rows = tuple((i, c if i != 1 else c[:2 + number] + (value,) + c[3 + number:]) for i, c in self.rows)
                if number == 2 or value != "a":
                    self.wrong(6, paper, rows)
                # Nor is the paper right that has the value of the cell.
                self.wrong(6, self.changed(paper, 6, value), rows)
        # The cell of another row does not matter.
        rows = tuple((i, c if i != 3 else c[:2] + (100,) + c[3:]) for i, c in self.rows)
        self.assertIsNone(check_cell(COLUMNS, self.definitions, rows, self.paper(1, 0)))

    def test_of_two_that_fail_the_first_one_tells(self):
        paper = self.paper(1, 0)
        wrong = {0: 8, 2: (6, 2, 4, 1, 9), 3: (5,), 4: (2,), 5: (), 6: 0}
        numbers = {0: 1, 2: 2, 3: 3, 4: 4, 5: 5, 6: 6}
        for one, other in itertools.combinations(wrong, 2):
            self.wrong(numbers[one], self.changed(self.changed(paper, one, wrong[one]), other, wrong[other]))
        self.wrong(1, self.changed(self.changed(paper, 1, 9), 2, ()))
        # A paper that is right for another row or definition, but its id or number.
        self.wrong(4, (2, *self.paper(1, 0)[1:]))
        self.wrong(2, (3, *self.paper(1, 0)[1:]))
        self.wrong(2, (1, 1, *self.paper(1, 0)[2:]))
        # Rows 3 and 7 are all of their partition, and peers.
        self.wrong(4, (3, *self.paper(7, 0)[1:]))

    def test_rows_that_changed(self):
        for number in (0, 1, 2):
            paper = self.paper(1, number)
            rows = evaluate(COLUMNS, self.definitions, (*BASE, (8, ("a", 4))))
            self.wrong(2, paper, rows)
        paper = self.paper(1, 0)
        for number, x in ((3, 3), (5, 6)):
            base = tuple((row_id, cells if row_id != 9 else ("a", x)) for row_id, cells in BASE)
            self.wrong(number, paper, evaluate(COLUMNS, self.definitions, base))


class ChangePaperTest(PapersTestCase):
    def setUp(self):
        self.definitions = definitions_of("s = sum x over (partition who order x)", "r = rank over (order s descending)")
        self.ahead = evaluate(COLUMNS, self.definitions, BASE)

    def behind(self, *others, without=()):
        cells_of = {**dict(BASE), **dict(others)}
        rows = tuple((row_id, cells) for row_id, cells in cells_of.items() if row_id not in without)
        return evaluate(COLUMNS, self.definitions, rows)

    def made(self, others, rows=None):
        rows = self.ahead if rows is None else rows
        told = change_paper(COLUMNS, self.definitions, rows, others)
        self.assertEqual(told[0], between(rows, others))
        self.assertEqual((type(told), type(told[0]), type(told[1])), (tuple, list, tuple))
        self.assertIsNone(check_change(COLUMNS, self.definitions, rows, others, *told))
        return told

    def wrong(self, number, others, changes, papers, rows=None):
        rows = self.ahead if rows is None else rows
        self.refused(number, check_change, COLUMNS, self.definitions, rows, others, changes, papers)

    def test_rows_equal(self):
        self.assertEqual(self.made(self.ahead), ([], ()))
        self.assertEqual(self.made(self.ahead[::-1]), ([], ()))
        self.assertEqual(self.made((), ()), ([], ()))

    def test_cells_set(self):
        others = self.behind((3, ("b", 7)))
        changes, papers = self.made(others)
        cells = [(change[1], change[2] - 2) for change in changes if change[2] >= 2]
        self.assertEqual(cells, [(1, 1), (3, 0), (3, 1), (4, 1), (7, 0), (7, 1)])
        self.assertEqual(papers, tuple(cell_paper(COLUMNS, self.definitions, others, *cell) for cell in cells))

    def test_in_the_order_of_the_list(self):
        columns = (("x", "integer"),)
        definitions = definitions_of("a = size over ()", "b = rank over (order x)")
        rows, others = [evaluate(columns, definitions, base) for base in (
            ((1, (5,)), (2, (7,)), (4, (9,))), ((1, (8,)), (3, (1,)), (4, (9,)), (6, (0,))))]
        changes, papers = change_paper(columns, definitions, rows, others)
        self.assertEqual(changes, [
            ("set", 1, 0, 5, 8), ("set", 1, 1, 3, 4), ("set", 1, 2, 1, 3), ("remove", 2, (7, 3, 2)), ("insert", 3, (1, 4, 2)),
            ("set", 4, 1, 3, 4), ("set", 4, 2, 3, 4), ("insert", 6, (0, 4, 1))])
        self.assertEqual([paper[:2] for paper in papers], [(1, 0), (1, 1), (3, 0), (3, 1), (4, 0), (4, 1), (6, 0), (6, 1)])
        self.assertEqual([paper[6] for paper in papers], [4, 3, 4, 2, 4, 4, 4, 1])
        # They are held against the rows behind.
        self.assertEqual({paper[2] for paper in papers}, {(1, 3, 4, 6), (6, 3, 1, 4)})

    def test_rows_inserted_and_removed(self):
        changes, papers = self.made(self.behind((8, ("c", 4))))
        self.assertIn(("insert", 8, ("c", 4, 4, 4)), changes)
        self.assertEqual([paper[:2] for paper in papers if paper[0] == 8], [(8, 0), (8, 1)])
        changes, papers = self.made(self.behind(without=(5,)))
        self.assertEqual((changes, papers), ([("remove", 5, (None, None, None, 7))], ()))
        changes, papers = self.made((), self.ahead)
        self.assertEqual(([change[0] for change in changes], papers), (["remove"] * 8, ()))
        changes, papers = self.made(self.ahead, ())
        self.assertEqual([paper[:2] for paper in papers], [(i, n) for i in (1, 2, 3, 4, 5, 6, 7, 9) for n in (0, 1)])

    def test_without_definitions(self):
        told = change_paper(COLUMNS, (), BASE, BASE[1:])
        self.assertEqual(told, ([("remove", 1, ("a", 3))], ()))
        self.assertIsNone(check_change(COLUMNS, (), BASE, BASE[1:], *told))
        self.refused(0, check_change, COLUMNS, (), BASE, BASE[1:], [], ())

    def test_another_list(self):
        others = self.behind((3, ("b", 7)), (8, ("c", 4)), without=(5,))
        changes, papers = self.made(others)
        self.wrong(0, others, [], papers)
        self.wrong(0, others, [], ())
        for place, change in enumerate(changes):
            self.wrong(0, others, changes[:place] + changes[place + 1:], papers)
            self.wrong(0, others, changes[:place] + [change] + changes[place:], papers)
            other = (*change[:-1], ("z",) * 4) if change[0] != "set" else (*change[:-1], change[-1] + 100)
            self.wrong(0, others, changes[:place] + [other] + changes[place + 1:], papers)
        self.wrong(0, others, changes[::-1], papers)
        self.wrong(0, others, changes + [("remove", 20, (1, 1, 1, 1))], papers)
        # Of the base cells alone it is not the one that leads to all cells.
        self.wrong(0, others, [change for change in changes if change[0] != "set" or change[2] < 2], ())
        self.wrong(0, self.ahead, changes, papers)
        self.wrong(0, others, changes, papers, rows=others)

    def test_too_few_or_too_many_papers(self):
        others = self.behind((3, ("b", 7)), (8, ("c", 4)), without=(5,))
        changes, papers = self.made(others)
        for place, paper in enumerate(papers):
            self.wrong(0, others, changes, papers[:place] + papers[place + 1:])
            self.wrong(0, others, changes, papers[:place] + (paper,) + papers[place:])
        self.wrong(0, others, changes, ())
        self.wrong(0, self.ahead, [], papers[:1], rows=self.ahead)

    def test_a_wrong_paper_is_told_by_its_place_and_what_fails(self):
        others = self.behind((3, ("b", 7)), (8, ("c", 4)), without=(5,))
        changes, papers = self.made(others)
        self.assertGreater(len(papers), 3)
        for place, paper in enumerate(papers):
            for number, part in ((2, ()), (3, (0,)), (4, (99,)), (5, (99,)), (6, 99)):
                wrong = paper[:number] + (part,) + paper[number + 1:]
                self.wrong(10 * (place + 1) + number, others, changes, papers[:place] + (wrong,) + papers[place + 1:])
                # Behind it stand other wrong ones.
                self.wrong(10 * (place + 1) + number, others, changes,
                           papers[:place] + (wrong,) + tuple(p[:6] + (99,) for p in papers[place + 1:]))

    def test_the_paper_of_another_cell(self):
        others = self.behind((3, ("b", 7)), (8, ("c", 4)), without=(5,))
        changes, papers = self.made(others)
        for place in range(len(papers) - 1):
            exchanged = papers[:place] + (papers[place + 1], papers[place]) + papers[place + 2:]
            self.wrong(10 * (place + 1) + 1, others, changes, exchanged)
        for place in range(len(papers)):
            right = cell_paper(COLUMNS, self.definitions, others, 9, 0)
            if right[:2] != papers[place][:2]:
                self.wrong(10 * (place + 1) + 1, others, changes, papers[:place] + (right,) + papers[place + 1:])
            for wrong in ((99, *papers[place][1:]), (papers[place][0], 7, *papers[place][2:]),
                          (papers[place][0], 1 - papers[place][1], *papers[place][2:])):
                self.wrong(10 * (place + 1) + 1, others, changes, papers[:place] + (wrong,) + papers[place + 1:])

    def test_cells_that_are_wrong_behind(self):
        others = self.behind((3, ("b", 7)))
        wrong = tuple((i, c if i != 3 else c[:2] + (99,) + c[3:]) for i, c in others)
        changes = between(self.ahead, wrong)
        self.assertEqual(change_paper(COLUMNS, self.definitions, self.ahead, wrong)[0], changes)
        papers = change_paper(COLUMNS, self.definitions, self.ahead, wrong)[1]
        place = [paper[:2] for paper in papers].index((3, 0)) + 1
        self.wrong(10 * place + 6, wrong, changes, papers)

    def test_along_long_rows_of_doings(self):
        for seed in range(8):
            dice = random.Random(seed)
            rows = ()
            table = table_model.ModelTable(COLUMNS, self.definitions)
            for _ in range(12):
                table.do(table_model.random_deeds(dice, COLUMNS, [row_id for row_id, _ in table.base()]))
                others = evaluate(COLUMNS, self.definitions, table.base())
                _, papers = self.made(others, rows)
                for paper in papers:
                    self.assertEqual(paper[6], dict(others)[paper[0]][2 + paper[1]])
                rows = others


class ArgumentsTest(unittest.TestCase):
    def test_names_of_arguments(self):
        for function, names in (
            ("check_cell", ["columns", "definitions", "rows", "paper"]),
            ("change_paper", ["columns", "definitions", "rows", "others"]),
            ("check_change", ["columns", "definitions", "rows", "others", "changes", "papers"]),
        ):
            self.assertEqual(list(inspect.signature(getattr(papers_file, function)).parameters), names)
        self.assertEqual(list(inspect.signature(cell_paper).parameters)[:3], ["columns", "definitions", "rows"])
        self.assertEqual(len(inspect.signature(cell_paper).parameters), 5)

    def test_arguments_stay_as_they_were(self):
        definitions = definitions_of("s = sum x over (partition who order x)")
        rows = evaluate(COLUMNS, definitions, BASE)
        changes, papers = change_paper(COLUMNS, definitions, rows[2:], rows)
        arguments = (COLUMNS, definitions, rows[2:], rows, changes, papers)
        before = copy.deepcopy(arguments)
        check_change(*arguments)
        self.assertEqual(arguments, before)


if __name__ == "__main__":
    unittest.main()
