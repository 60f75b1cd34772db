"""Written forms of definitions (t4)."""

import inspect
import itertools
import unittest

from grammar import text_of, tokens_of
from windowtable import writing
from windowtable.reading import parse_definition
from windowtable.writing import definition_text

USUAL = ("range", ("start",), ("current",), "nothing")
FUNCTIONS = (
    (("number", None, None), "number"), (("rank", None, None), "rank"), (("dense", None, None), "dense"),
    (("size", None, None), "size"), (("tile", None, 1), "tile 1"), (("tile", None, 9999), "tile 9999"),
    (("lag", "x", 0), "lag x 0"), (("lag", "x", 12), "lag x 12"), (("lead", "x1", 3), "lead x1 3"),
    (("nth", "x", 5), "nth x 5"), (("count", "x", None), "count x"), (("different", "x", None), "different x"),
    (("sum", "x", None), "sum x"), (("least", "x", None), "least x"), (("greatest", "x", None), "greatest x"),
    (("median", "x", None), "median x"), (("first", "x", None), "first x"), (("last", "x", None), "last x"),
)
PARTITIONS = (
    ((), ""), (("a",), "partition a"), (("a", "b"), "partition a, b"), (("c", "a", "c"), "partition c, a, c"),
)
ORDERS = (
    ((), ""), ((("d", False),), "order d"), ((("d", True),), "order d descending"),
    ((("d", False), ("e", True)), "order d, e descending"),
    ((("d", True), ("e", False), ("f", True)), "order d descending, e, f descending"),
)
BOUNDS = (
    (("start",), "start"), (("before", 0), "0 before"), (("before", 12), "12 before"), (("current",), "current"),
    (("after", 0), "0 after"), (("after", 9999), "9999 after"), (("end",), "end"),
)
EXCLUSIONS = (
    ("nothing", ""), ("current", " without current"), ("group", " without group"), ("ties", " without ties"),
)


def frames():
    """Each frame, and how it is written."""
    for unit, (first, from_text), (last, to_text), (exclusion, behind) in itertools.product(
            ("rows", "range", "groups"), BOUNDS, BOUNDS, EXCLUSIONS):
        frame = (unit, first, last, exclusion)
        yield frame, "" if frame == USUAL else f"{unit} {from_text} to {to_text}{behind}"


class WrittenFormTest(unittest.TestCase):
    def test_each_function_with_and_without_all_parts(self):
        frame_choices = ((USUAL, ""), (("rows", ("before", 2), ("end",), "ties"), "rows 2 before to end without ties"))
        for (function, head), (partition, first), (order, second), (frame, third) in itertools.product(
                FUNCTIONS, PARTITIONS, ORDERS, frame_choices):
            inside = " ".join(part for part in (first, second, third) if part)
            wanted = f"t = {head} over ({inside})"
            with self.subTest(wanted):
                self.assertEqual(definition_text(("t", *function, partition, order, frame)), wanted)

    def test_each_frame(self):
        for frame, text in frames():
            with self.subTest(frame=frame):
                self.assertEqual(
                    definition_text(("t", "size", None, None, (), (), frame)), f"t = size over ({text})")
                self.assertEqual(
                    definition_text(("t", "sum", "x", None, (), (("a", True),), frame)),
                    f"t = sum x over (order a descending{' ' + text if text else ''})")

    def test_only_the_usual_frame_is_not_written(self):
        for exclusion in ("current", "group", "ties"):
            self.assertEqual(
                definition_text(("t", "size", None, None, (), (), (*USUAL[:3], exclusion))),
                f"t = size over (range start to current without {exclusion})")
        for unit in ("rows", "groups"):
            self.assertEqual(
                definition_text(("t", "size", None, None, (), (), (unit, *USUAL[1:]))),
                f"t = size over ({unit} start to current)")

    def test_names_that_read_like_other_things(self):
        self.assertEqual(
            definition_text(("nothing", "lag", "none", 1, ("sums",), (("abcdefg8", True),), USUAL)),
            "nothing = lag none 1 over (partition sums order abcdefg8 descending)")


class ReadAgainTest(unittest.TestCase):
    def test_written_forms_are_read_as_the_same_definition(self):
        for (function, _), (partition, _), (order, _), (frame, _) in itertools.product(
                FUNCTIONS, PARTITIONS, ORDERS, list(frames())[::17]):
            definition = ("t", *function, partition, order, frame)
            with self.subTest(definition=definition):
                self.assertEqual(parse_definition(definition_text(definition)), definition)

    def test_each_frame_is_read_again(self):
        for frame, _ in frames():
            definition = ("t", "first", "x", None, ("a",), (("b", False),), frame)
            with self.subTest(frame=frame):
                self.assertEqual(parse_definition(definition_text(definition)), definition)

    def test_the_longest_one_is_read_again(self):
        long = "abcdefgh"
        frame = ("groups", ("before", 9999), ("before", 9999), "current")
        for function in (("different", long, None), ("nth", long, 9999)):
            definition = (long, *function, (long,) * 3, ((long, True),) * 3, frame)
            self.assertEqual(parse_definition(definition_text(definition)), definition)

    def test_other_blanks_are_the_same_definition(self):
        texts = (
            "t = sum x over (partition a, b order day descending, c rows 2 before to current)",
            "t = nth x 2 over (order a range 1 before to end without ties)",
            "t = size over ()",
            "t = lead x 2 over (partition a)",
        )
        for text in texts:
            for blank in (" ", "\n", "  ", " \n "):
                with self.subTest(text, blank=blank):
                    spaced = blank + blank.join(tokens_of(text)) + blank
                    self.assertEqual(parse_definition(spaced), parse_definition(text))
                    self.assertEqual(definition_text(parse_definition(spaced)), text)

    def test_no_blanks(self):
        self.assertEqual(
            definition_text(parse_definition("t=sum x over(partition a,b order c descending,d)")),
            "t = sum x over (partition a, b order c descending, d)")
        self.assertEqual(definition_text(parse_definition("t=size over()")), "t = size over ()")

    def test_the_usual_frame_written_out(self):
        for inside in ("", "partition a", "order b", "partition a order b descending, c"):
            whole = f"t = sum x over ({inside} range start to current)"
            wanted = f"t = sum x over ({inside})"
            with self.subTest(whole):
                self.assertEqual(parse_definition(whole), parse_definition(wanted))
                self.assertEqual(definition_text(parse_definition(whole)), wanted)

    def test_against_the_other_writing(self):
        for frame, _ in frames():
            definition = ("t", "sum", "x", None, ("a", "b"), (("c", True), ("d", False)), frame)
            with self.subTest(frame=frame):
                self.assertEqual(definition_text(parse_definition(text_of(definition))), definition_text(definition))


class InterfaceTest(unittest.TestCase):
    def test_example(self):
        self.assertEqual(
            definition_text(parse_definition(
                "t=sum x over(partition a,b order day descending rows 2 before to current)")),
            "t = sum x over (partition a, b order day descending rows 2 before to current)")

    def test_function_with_its_argument(self):
        self.assertEqual(list(inspect.signature(definition_text).parameters), ["definition"])
        self.assertEqual(writing.definition_text.__module__, "windowtable.writing")
        self.assertIs(type(definition_text(("t", "size", None, None, (), (), USUAL))), str)


if __name__ == "__main__":
    unittest.main()
