"""Values, base values and kinds (c2, v1), and the order of values (c3)."""

import inspect
import string
import unittest

from windowtable import values
from windowtable.values import compare, has_kind, is_base, is_value, key_of

# Each comes ahead of the next one.
ASCENDING = (
    None,
    -10 ** 30, -10 ** 6, -10000, -9999, -1000, -999, -10, -9, -2, -1, 0, 1, 2, 9, 10, 99, 100, 9999, 10000, 10 ** 6,
    2 ** 63, 10 ** 30, 10 ** 30 + 1,
    "", "a", "aa", "aaa", "ab", "aba", "abc", "abcdef", "abcdefg", "abd", "ac", "b", "ba", "bob", "m", "none", "z",
    "za", "zz", "zzzzzz", "zzzzzzz",
)
OTHER_KINDS = (
    (), (1,), ("a",), (None,), [], [1], ["a"], {}, {"a": 1}, set(), {1}, frozenset(), 1.0, 0.5, 1j, b"", b"a",
    object(), int, str, len,
)
NO_TEXTS = (
    "A", "Z", "aB", "Ab", "ABC", "0", "1", "9", "a1", "1a", "-1", " ", "a ", " a", "a b", "\n", "a\n", "\t", "_", "a_b",
    "-", "'", "a'", ".", ",", "`", "{", "@", "[", "\u00e9", "a\u00e4", "\u00df", "\u0430", "\uff41", "\u0661", "\u00aa",
)


class IsValueTest(unittest.TestCase):
    def test_values(self):
        for value in (*ASCENDING, string.ascii_lowercase, "x" * 300):
            with self.subTest(value=value):
                self.assertIs(is_value(value), True)

    def test_truths_are_no_values(self):
        self.assertIs(is_value(True), False)
        self.assertIs(is_value(False), False)

    def test_other_texts_are_no_values(self):
        for text in NO_TEXTS:
            with self.subTest(text=text):
                self.assertIs(is_value(text), False)

    def test_things_of_other_kinds_are_no_values(self):
        for thing in OTHER_KINDS:
            with self.subTest(thing=thing):
                self.assertIs(is_value(thing), False)


class IsBaseTest(unittest.TestCase):
    def test_base_values(self):
        for value in (None, -9999, -9998, -1, 0, 1, 9998, 9999, "", "a", "z", "abcde", "abcdef", "zzzzzz"):
            with self.subTest(value=value):
                self.assertIs(is_base(value), True)

    def test_every_letter(self):
        for letter in string.ascii_lowercase:
            with self.subTest(letter=letter):
                self.assertIs(is_base(letter), True)
                self.assertIs(is_value(letter), True)

    def test_integers_beyond_the_bounds(self):
        for value in (-10000, 10000, -10001, 10001, -10 ** 30, 10 ** 30):
            with self.subTest(value=value):
                self.assertIs(is_base(value), False)

    def test_longer_texts(self):
        for value in ("abcdefg", "aaaaaaa", "zzzzzzzz", "x" * 300):
            with self.subTest(value=value):
                self.assertIs(is_base(value), False)

    def test_what_is_no_value(self):
        for thing in (True, False, *NO_TEXTS, *OTHER_KINDS):
            with self.subTest(thing=thing):
                self.assertIs(is_base(thing), False)


class HasKindTest(unittest.TestCase):
    def test_nothing_is_of_both(self):
        self.assertIs(has_kind(None, "integer"), True)
        self.assertIs(has_kind(None, "text"), True)

    def test_integers(self):
        for value in ASCENDING:
            if isinstance(value, int):
                with self.subTest(value=value):
                    self.assertIs(has_kind(value, "integer"), True)
                    self.assertIs(has_kind(value, "text"), False)

    def test_texts(self):
        for value in ASCENDING:
            if isinstance(value, str):
                with self.subTest(value=value):
                    self.assertIs(has_kind(value, "text"), True)
                    self.assertIs(has_kind(value, "integer"), False)

    def test_truths_are_of_no_kind(self):
        for truth in (True, False):
            for kind in ("integer", "text"):
                with self.subTest(truth=truth, kind=kind):
                    self.assertIs(has_kind(truth, kind), False)


class OrderTest(unittest.TestCase):
    def test_compare(self):
        for place, one in enumerate(ASCENDING):
            for other_place, other in enumerate(ASCENDING):
                told = compare(one, other)
                with self.subTest(one=one, other=other):
                    self.assertEqual(told, (place > other_place) - (place < other_place))
                    self.assertIs(type(told), int)

    def test_keys_compare_as_the_values_do(self):
        for place, one in enumerate(ASCENDING):
            for other_place, other in enumerate(ASCENDING):
                with self.subTest(one=one, other=other):
                    self.assertIs(key_of(one) < key_of(other), place < other_place)
                    self.assertIs(key_of(one) == key_of(other), place == other_place)
                    self.assertIs(key_of(one) > key_of(other), place > other_place)

    def test_keys_are_tuples(self):
        for value in ASCENDING:
            with self.subTest(value=value):
                self.assertIs(type(key_of(value)), tuple)

    def test_sorting_by_keys(self):
        mixed = ASCENDING[1::2] + ASCENDING[::-2]
        self.assertEqual(sorted(mixed, key=key_of), list(ASCENDING))
        self.assertEqual(sorted(ASCENDING, key=key_of, reverse=True), list(reversed(ASCENDING)))

    def test_equal_texts_that_are_different_objects(self):
        self.assertEqual(compare("".join(["a", "b"]), "ab"), 0)
        self.assertEqual(compare(10 ** 30, int("1" + "0" * 30)), 0)


class InterfaceTest(unittest.TestCase):
    def test_functions_with_their_arguments(self):
        wanted = {
            "is_value": ["thing"], "is_base": ["thing"], "has_kind": ["value", "kind"],
            "compare": ["one", "other"], "key_of": ["value"],
        }
        for name, arguments in wanted.items():
            with self.subTest(name):
                function = getattr(values, name)
                self.assertEqual(list(inspect.signature(function).parameters), arguments)
                self.assertEqual(function.__module__, "windowtable.values")


if __name__ == "__main__":
    unittest.main()
