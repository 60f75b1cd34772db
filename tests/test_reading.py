"""Definitions that are read (c1, c7, c8, t1, t2): their shapes, and what may stand between their tokens."""

import inspect
import itertools
import unittest

from grammar import FUNCTIONS, WORDS, text_of, tokens_of
from windowtable import reading
from windowtable.reading import parse_definition

USUAL = ("range", ("start",), ("current",), "nothing")
BOUNDS = (
    ("start",), ("before", 0), ("before", 1), ("before", 9999), ("current",), ("after", 0), ("after", 17),
    ("after", 9999), ("end",),
)
FUNCTION_PARTS = {
    "number": ("number", None, None),
    "rank": ("rank", None, None),
    "dense": ("dense", None, None),
    "size": ("size", None, None),
    "tile 4": ("tile", None, 4),
    "lag x 2": ("lag", "x", 2),
    "lead x 3": ("lead", "x", 3),
    "nth x 5": ("nth", "x", 5),
    "count x": ("count", "x", None),
    "different x": ("different", "x", None),
    "sum x": ("sum", "x", None),
    "least x": ("least", "x", None),
    "greatest x": ("greatest", "x", None),
    "median x": ("median", "x", None),
    "first x": ("first", "x", None),
    "last x": ("last", "x", None),
}
SAMPLES = (
    "t = sum x over (partition a, b order day descending rows 2 before to current)",
    "p = lag x 1 over (order day)",
    "a = size over ()",
    "d1 = tile 3 over (partition a1)",
    "m = median paid over (partition a, b, c order x, y descending, z range 10 before to 10 after without group)",
    "f = first x over (groups start to end without ties)",
)


def frame_of(text):
    return parse_definition(f"t = size over ({text})")[6]


class FunctionsTest(unittest.TestCase):
    def test_every_function_is_here(self):
        self.assertEqual(sorted(parts[0] for parts in FUNCTION_PARTS.values()), sorted(FUNCTIONS))

    def test_alone(self):
        for text, parts in FUNCTION_PARTS.items():
            with self.subTest(text):
                self.assertEqual(parse_definition(f"t = {text} over ()"), ("t", *parts, (), (), USUAL))

    def test_with_partition_order_and_frame(self):
        frame = ("rows", ("before", 2), ("after", 3), "ties")
        choices = (
            ("", (), "", (), "", USUAL),
            ("partition a", ("a",), "", (), "", USUAL),
            ("", (), "order b", (("b", False),), "", USUAL),
            ("partition a", ("a",), "order b", (("b", False),), "", USUAL),
            ("", (), "", (), "rows 2 before to 3 after without ties", frame),
            ("partition a", ("a",), "", (), "rows 2 before to 3 after without ties", frame),
            ("", (), "order b", (("b", False),), "rows 2 before to 3 after without ties", frame),
            ("partition a", ("a",), "order b", (("b", False),), "rows 2 before to 3 after without ties", frame),
        )
        for text, parts in FUNCTION_PARTS.items():
            for first, partition, second, order, third, told in choices:
                whole = f"t = {text} over ({first} {second} {third})"
                with self.subTest(whole):
                    self.assertEqual(parse_definition(whole), ("t", *parts, partition, order, told))

    def test_numbers(self):
        for number in (0, 1, 9, 10, 100, 1000, 9998, 9999):
            with self.subTest(number=number):
                self.assertEqual(parse_definition(f"t = lag x {number} over ()")[1:4], ("lag", "x", number))
                self.assertEqual(parse_definition(f"t = lead x {number} over ()")[1:4], ("lead", "x", number))
                if number:
                    self.assertEqual(parse_definition(f"t = tile {number} over ()")[1:4], ("tile", None, number))
                    self.assertEqual(parse_definition(f"t = nth x {number} over ()")[1:4], ("nth", "x", number))

    def test_numbers_are_integers(self):
        for text in ("t = tile 1 over ()", "t = nth x 1 over ()", "t = lag x 1 over ()"):
            with self.subTest(text):
                self.assertIs(type(parse_definition(text)[3]), int)


class PartitionAndOrderTest(unittest.TestCase):
    def test_partitions(self):
        for names in (("a",), ("a", "b"), ("a", "b", "c"), ("c", "a", "b"), ("a", "a"), ("x", "x", "x"), ("t",)):
            text = "t = size over (partition " + ", ".join(names) + ")"
            with self.subTest(text):
                self.assertEqual(parse_definition(text), ("t", "size", None, None, names, (), USUAL))

    def test_orders(self):
        for many in (1, 2, 3):
            for downs in itertools.product((False, True), repeat=many):
                order = tuple(zip(("b", "a", "b"), downs))
                keys = ", ".join(name + (" descending" if down else "") for name, down in order)
                with self.subTest(keys):
                    told = parse_definition(f"t = size over (order {keys})")
                    self.assertEqual(told, ("t", "size", None, None, (), order, USUAL))
                    self.assertTrue(all(type(down) is bool for name, down in told[5]))

    def test_three_of_both(self):
        told = parse_definition("t = size over (partition a, b, c order d descending, e, f descending rows start to end)")
        self.assertEqual(told[4], ("a", "b", "c"))
        self.assertEqual(told[5], (("d", True), ("e", False), ("f", True)))
        self.assertEqual(told[6], ("rows", ("start",), ("end",), "nothing"))


class FramesTest(unittest.TestCase):
    def test_usual_frame(self):
        for text in ("", "partition a", "order a", "order a descending", "partition a order b"):
            with self.subTest(text):
                self.assertEqual(frame_of(text), USUAL)

    def test_usual_frame_written_out(self):
        self.assertEqual(frame_of("range start to current"), USUAL)

    def test_each_unit_bound_and_exclusion(self):
        units, exclusions = ("rows", "range", "groups"), ("nothing", "current", "group", "ties")
        for frame in itertools.product(units, BOUNDS, BOUNDS, exclusions):
            definition = ("t", "size", None, None, (), (("a", False),), frame)
            with self.subTest(frame=frame):
                self.assertEqual(parse_definition(text_of(definition)), definition)

    def test_spelled_out(self):
        self.assertEqual(frame_of("rows start to end"), ("rows", ("start",), ("end",), "nothing"))
        self.assertEqual(frame_of("groups current to current"), ("groups", ("current",), ("current",), "nothing"))
        self.assertEqual(frame_of("range 5 after to 7 before"), ("range", ("after", 5), ("before", 7), "nothing"))
        self.assertEqual(frame_of("rows 0 before to 0 after"), ("rows", ("before", 0), ("after", 0), "nothing"))
        self.assertEqual(frame_of("rows current to end without current"), ("rows", ("current",), ("end",), "current"))
        self.assertEqual(frame_of("rows current to end without group"), ("rows", ("current",), ("end",), "group"))
        self.assertEqual(frame_of("range start to current without ties"), ("range", ("start",), ("current",), "ties"))

    def test_frames_that_are_not_right_are_read_all_the_same(self):
        self.assertEqual(frame_of("rows end to start"), ("rows", ("end",), ("start",), "nothing"))
        self.assertEqual(frame_of("range 1 before to current"), ("range", ("before", 1), ("current",), "nothing"))


class NamesTest(unittest.TestCase):
    NAMES = ("a", "z", "x1", "a0", "z9", "abcdefgh", "a2345678", "abcdefg1", "nothing", "none", "ranks", "ro", "sums",
             "overt", "show", "where", "and", "or", "not", "is", "insert", "value", "text", "integer")

    def test_names_in_every_place(self):
        for name in self.NAMES:
            with self.subTest(name):
                told = parse_definition(f"{name} = sum {name} over (partition {name} order {name})")
                self.assertEqual(told, (name, "sum", name, None, (name,), ((name, False),), USUAL))
                told = parse_definition(f"t = size over (partition a, {name}, {name} order a, {name} descending, {name})")
                self.assertEqual(told[4], ("a", name, name))
                self.assertEqual(told[5], (("a", False), (name, True), (name, False)))

    def test_words_with_more_behind_them_are_names(self):
        for word in WORDS:
            name = word + "1"
            if len(name) <= 8:
                with self.subTest(name):
                    self.assertEqual(parse_definition(f"{name} = sum {name} over ()")[:3], (name, "sum", name))


class BlanksTest(unittest.TestCase):
    def test_any_blanks_between_tokens(self):
        for text in SAMPLES:
            wanted = parse_definition(text)
            for blank in (" ", "\n", "  ", "\n\n", " \n "):
                spaced = blank.join(tokens_of(text))
                for whole in (spaced, " " + spaced, spaced + " ", "\n" + spaced + "\n"):
                    if len(whole) <= 200:
                        with self.subTest(whole):
                            self.assertEqual(parse_definition(whole), wanted)

    def test_no_blanks_where_none_are_needed(self):
        self.assertEqual(
            parse_definition("t=sum x over(partition a,b order c descending,d rows 1 before to end)"),
            ("t", "sum", "x", None, ("a", "b"), (("c", True), ("d", False)),
             ("rows", ("before", 1), ("end",), "nothing")))
        self.assertEqual(parse_definition("t=size over()"), ("t", "size", None, None, (), (), USUAL))

    def test_samples(self):
        self.assertEqual(
            parse_definition(SAMPLES[4]),
            ("m", "median", "paid", None, ("a", "b", "c"), (("x", False), ("y", True), ("z", False)),
             ("range", ("before", 10), ("after", 10), "group")))
        self.assertEqual(
            parse_definition(SAMPLES[5]),
            ("f", "first", "x", None, (), (), ("groups", ("start",), ("end",), "ties")))

    def test_exactly_two_hundred_characters(self):
        for text in SAMPLES:
            with self.subTest(text):
                wanted = parse_definition(text)
                self.assertEqual(parse_definition(text.ljust(200)), wanted)
                self.assertEqual(parse_definition(text.rjust(200, "\n")), wanted)


class InterfaceTest(unittest.TestCase):
    def test_examples(self):
        self.assertEqual(
            parse_definition("t=sum x over(partition a,b order day descending rows 2 before to current)"),
            ("t", "sum", "x", None, ("a", "b"), (("day", True),), ("rows", ("before", 2), ("current",), "nothing")))
        self.assertEqual(
            parse_definition("p = lag x 1 over (order day)"),
            ("p", "lag", "x", 1, (), (("day", False),), ("range", ("start",), ("current",), "nothing")))

    def test_function_with_its_argument(self):
        self.assertEqual(list(inspect.signature(parse_definition).parameters), ["text"])
        self.assertEqual(reading.parse_definition.__module__, "windowtable.reading")

    def test_shapes_are_tuples_throughout(self):
        def check(shape):
            self.assertNotIsInstance(shape, (list, dict, set))
            if isinstance(shape, tuple):
                for part in shape:
                    check(part)
        for text in SAMPLES:
            told = parse_definition(text)
            self.assertIs(type(told), tuple)
            self.assertEqual(len(told), 7)
            check(told)


if __name__ == "__main__":
    unittest.main()
