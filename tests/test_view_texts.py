"""Texts of views: reading them, refusing them, and their written form (u1 to u3)."""

import inspect
import itertools
import random
import unittest

import grammar
from viewgrammar import (
    SIGNS, VIEW_WORDS, loose, loose_spaces, random_condition, view_refusal, written,
)
from windowtable import conditions as conditions_file
from windowtable.conditions import parse_view, view_text
from windowtable.errors import BadText

A = ("none", "a")
B = ("none", "b")
C = ("none", "c")
TOKEN, END, LONG, LARGE = "unexpected token", "unexpected end", "text too long", "condition too large"


def condition_of(text):
    view = parse_view("show x where " + text)
    return view[1]


class TextsTestCase(unittest.TestCase):
    def refused(self, text, token, reason):
        with self.subTest(text=text):
            with self.assertRaises(BadText) as caught:
                parse_view(text)
            self.assertIs(type(caught.exception), BadText)
            self.assertEqual((caught.exception.token, caught.exception.reason), (token, reason))


class ReadTest(TextsTestCase):
    def test_each_line_of_the_language(self):
        for text, wanted in (
            ("show a", (("a",), None, (), None)),
            ("show a, b", (("a", "b"), None, (), None)),
            ("show a, a", (("a", "a"), None, (), None)),
            ("show f, e, d, c, b, a", (tuple("fedcba"), None, (), None)),
            ("show a where b is none", (("a",), B, (), None)),
            ("show a order b", (("a",), None, (("b", False),), None)),
            ("show a order b descending", (("a",), None, (("b", True),), None)),
            ("show a order b descending, c, b", (("a",), None, (("b", True), ("c", False), ("b", False)), None)),
            ("show a first 1", (("a",), None, (), 1)),
            ("show a first 9999", (("a",), None, (), 9999)),
            ("show a where b is none order c, d descending first 12",
             (("a",), B, (("c", False), ("d", True)), 12)),
            ("show a where a = 1 first 2", (("a",), ("=", "a", ("value", 1)), (), 2)),
            ("show a order b first 2", (("a",), None, (("b", False),), 2)),
        ):
            with self.subTest(text):
                self.assertEqual(parse_view(text), wanted)

    def test_examples_of_the_document(self):
        text = "show who,total where (paid > 3 or not(who='ann'))and day is none order total descending first 2"
        self.assertEqual(
            view_text(parse_view(text)),
            "show who, total where (paid > 3 or not who = 'ann') and day is none order total descending first 2")
        self.assertEqual(parse_view("show a where a < -1"), (("a",), ("<", "a", ("value", -1)), (), None))

    def test_atoms(self):
        for text, wanted in (
            ("a is none", A),
            ("a = 0", ("=", "a", ("value", 0))),
            ("a=0", ("=", "a", ("value", 0))),
            ("a < 9999", ("<", "a", ("value", 9999))),
            ("a>-9999", (">", "a", ("value", -9999))),
            ("a = -1", ("=", "a", ("value", -1))),
            ("a<-10", ("<", "a", ("value", -10))),
            ("a = ''", ("=", "a", ("value", ""))),
            ("a<'x'", ("<", "a", ("value", "x"))),
            ("a > 'abcdef'", (">", "a", ("value", "abcdef"))),
            ("a = 'none'", ("=", "a", ("value", "none"))),
            ("a = 'over'", ("=", "a", ("value", "over"))),
            ("a = b", ("=", "a", ("name", "b"))),
            ("a < a", ("<", "a", ("name", "a"))),
            ("abcdefgh > b1234567", (">", "abcdefgh", ("name", "b1234567"))),
            ("nothing = nones", ("=", "nothing", ("name", "nones"))),
            ("not a is none", ("not", A)),
            ("not not a is none", ("not", ("not", A))),
            ("not not not a = 1", ("not", ("not", ("not", ("=", "a", ("value", 1)))))),
        ):
            with self.subTest(text):
                self.assertEqual(condition_of(text), wanted)

    def test_and_or_not(self):
        for text, wanted in (
            ("a is none and b is none", ("and", (A, B))),
            ("a is none or b is none", ("or", (A, B))),
            ("a is none and b is none and c is none", ("and", (A, B, C))),
            ("a is none or b is none or c is none", ("or", (A, B, C))),
            ("a is none and b is none or c is none", ("or", (("and", (A, B)), C))),
            ("a is none or b is none and c is none", ("or", (A, ("and", (B, C))))),
            ("not a is none and b is none", ("and", (("not", A), B))),
            ("not a is none or not b is none", ("or", (("not", A), ("not", B)))),
            ("a is none and not b is none or c is none", ("or", (("and", (A, ("not", B))), C))),
        ):
            with self.subTest(text):
                self.assertEqual(condition_of(text), wanted)

    def test_round_brackets(self):
        for text, wanted in (
            # Some that change nothing.
            ("(a is none)", A),
            ("((a is none))", A),
            ("not (a is none)", ("not", A)),
            ("not(not(a is none))", ("not", ("not", A))),
            ("(not a is none)", ("not", A)),
            ("(a is none) and (b is none)", ("and", (A, B))),
            ("(a is none and b is none)", ("and", (A, B))),
            ("((a is none) or b is none)", ("or", (A, B))),
            ("(a is none and b is none) or c is none", ("or", (("and", (A, B)), C))),
            # Some that do.
            ("a is none and (b is none or c is none)", ("and", (A, ("or", (B, C))))),
            ("(a is none or b is none) and c is none", ("and", (("or", (A, B)), C))),
            ("not (a is none and b is none)", ("not", ("and", (A, B)))),
            ("not (a is none or b is none) and c is none", ("and", (("not", ("or", (A, B))), C))),
            ("not ((a is none) or b is none)", ("not", ("or", (A, B)))),
            # An or directly in an or stays one, and so does an and in an and.
            ("a is none or (b is none or c is none)", ("or", (A, ("or", (B, C))))),
            ("(a is none or b is none) or c is none", ("or", (("or", (A, B)), C))),
            ("((a is none or b is none)) or ((c is none))", ("or", (("or", (A, B)), C))),
            ("a is none and (b is none and c is none)", ("and", (A, ("and", (B, C))))),
            ("(a is none and b is none) and c is none", ("and", (("and", (A, B)), C))),
        ):
            with self.subTest(text):
                self.assertEqual(condition_of(text), wanted)

    def test_many_round_brackets_and_nots(self):
        self.assertEqual(condition_of("(" * 88 + "a is none" + ")" * 88), A)
        told = condition_of("not(" * 35 + "a is none" + ")" * 35)
        for _ in range(35):
            self.assertEqual(told[0], "not")
            told = told[1]
        self.assertEqual(told, A)
        told = condition_of("not " * 44 + "a is none")
        self.assertEqual(view_text((("x",), told, (), None)), "show x where " + "not " * 44 + "a is none")

    def test_spaces_and_newlines(self):
        wanted = parse_view("show a , b where not ( a = -1 or b is none ) order b descending , a first 3")
        for text in ("show a,b where not(a=-1 or b is none)order b descending,a first 3",
                     "\n\nshow\na,\nb\nwhere\nnot\n(\na\n=\n-1\nor\nb\nis\nnone\n)\norder\nb\ndescending\n,\na\nfirst\n3\n",
                     "  show   a  ,b where not  (a =-1 or b  is none)order b descending,a   first 3  "):
            self.assertEqual(parse_view(text), wanted)
        # A number and a word that touch each other are one run.
        self.refused("show a where not(a=-1or b is none)", 8, TOKEN)
        self.refused("show a where a=1or b=2", 6, TOKEN)
        self.assertEqual(parse_view("show a where b='x'and c='y'or a='z'"),
                         parse_view("show a where b = 'x' and c = 'y' or a = 'z'"))

    def test_kinds(self):
        view = parse_view("show a, b where a = 1 and b is none order a first 1")
        self.assertEqual([type(part) for part in (view, *view)], [tuple, tuple, tuple, tuple, int])
        self.assertEqual([type(part) for part in (view[1][1], view[2][0], view[2][0][1])], [tuple, tuple, bool])


class RefusedTest(TextsTestCase):
    def told(self, text):
        try:
            parse_view(text)
        except BadText as error:
            return (error.token, error.reason)
        return None

    def test_places(self):
        for text, token, reason in (
            ("", 1, END), (" \n ", 1, END), ("show", 2, END), ("a", 1, TOKEN), ("where", 1, TOKEN), ("Show a", 1, TOKEN),
            ("show a b", 3, TOKEN), ("show a,", 4, END), ("show a,,", 4, TOKEN), ("show ,a", 2, TOKEN), ("show 1", 2, TOKEN),
            ("show 'a'", 2, TOKEN), ("show a where", 4, END), ("show where a = 1", 2, TOKEN), ("show a where order b", 4, TOKEN),
            ("show a where b", 5, END), ("show a where b is", 6, END), ("show a where b is not", 6, TOKEN),
            ("show a where b is 1", 6, TOKEN), ("show a where b is not none", 6, TOKEN), ("show a where b none", 5, TOKEN),
            ("show a where b =", 6, END), ("show a where b = none", 6, TOKEN), ("show a where b = =", 6, TOKEN),
            ("show a where b < = 1", 6, TOKEN), ("show a where b <> 1", 6, TOKEN), ("show a where b ! 1", 5, TOKEN),
            ("show a where b = (1)", 6, TOKEN), ("show a where 1 = b", 4, TOKEN), ("show a where 'x' = b", 4, TOKEN),
            ("show a where b = 1 2", 7, TOKEN), ("show a where b = 1 and", 8, END), ("show a where b = 1 or", 8, END),
            ("show a where b = 1 and or c = 1", 8, TOKEN), ("show a where b = 1 and and c = 1", 8, TOKEN),
            ("show a where or b = 1", 4, TOKEN), ("show a where not", 5, END), ("show a where not or", 5, TOKEN),
            ("show a where b not = 1", 5, TOKEN), ("show a where b = 1 not c = 1", 7, TOKEN), ("show a where (", 5, END),
            ("show a where ()", 5, TOKEN), ("show a where (b = 1", 8, END), ("show a where (b = 1 and", 9, END),
            ("show a where (b = 1))", 9, TOKEN), ("show a where b = 1)", 7, TOKEN), ("show a where (b) = 1", 6, TOKEN),
            ("show a where ((b = 1) order b", 10, TOKEN), ("show a where (b = 1 order b)", 8, TOKEN),
            ("show a where (b = 1) (c = 1)", 9, TOKEN), ("show a where b = 1 (c = 1)", 7, TOKEN), ("show a where (b = 1) c", 9, TOKEN),
            ("show a where b = 1, c = 1", 7, TOKEN), ("show a order", 4, END), ("show a order descending", 4, TOKEN),
            ("show a order b c", 5, TOKEN), ("show a order b,", 6, END), ("show a order b descending descending", 6, TOKEN),
            ("show a order b where b = 1", 5, TOKEN), ("show a order b order b", 5, TOKEN), ("show a order 1", 4, TOKEN),
            ("show a first", 4, END), ("show a first 0", 4, TOKEN), ("show a first -1", 4, TOKEN), ("show a first 01", 4, TOKEN),
            ("show a first 10000", 4, TOKEN), ("show a first b", 4, TOKEN), ("show a first 'b'", 4, TOKEN),
            ("show a first 1 2", 5, TOKEN), ("show a first 1 order b", 5, TOKEN), ("show a first 1 first 1", 5, TOKEN),
            ("show a first 1,", 5, TOKEN), ("show a; show b", 3, TOKEN), ("show a.", 3, TOKEN), ("show *", 2, TOKEN),
            ("show (a)", 2, TOKEN), ("show a = 1", 3, TOKEN), ("show a where a = 1 where b = 1", 7, TOKEN),
        ):
            self.refused(text, token, reason)
            self.assertEqual(view_refusal(text), (token, reason), text)

    def test_many_names_and_keys(self):
        self.assertEqual(parse_view("show a, b, c, d, e, f")[0], tuple("abcdef"))
        self.refused("show a, b, c, d, e, f, g", 13, TOKEN)
        self.refused("show a, b, c, d, e, f,", 13, TOKEN)
        self.refused("show a, a, a, a, a, a, a where b = 1", 13, TOKEN)
        self.assertEqual(len(parse_view("show a order a, b, c descending")[2]), 3)
        self.refused("show a order a, b, c, d", 9, TOKEN)
        self.refused("show a order a, b, c,", 9, TOKEN)
        self.refused("show a order a descending, b descending, c descending, d", 12, TOKEN)

    def test_words_that_are_no_names(self):
        for word in (*VIEW_WORDS, *grammar.WORDS):
            for text, token in (
                (f"show {word}", 2), (f"show a, {word}", 4), (f"show a where a = 1 and {word} = 1", 9 if word == "not" else 8),
                (f"show a order {word}", 4), (f"show a order b, {word}", 6),
            ):
                self.refused(text, token, TOKEN)
            self.refused(f"show a where a = {word}", 6, TOKEN)
            self.refused(f"show a where {word} is none and a = 1", 5 if word == "not" else 4, TOKEN)
        for name in ("nothing", "shows", "sho", "isnone", "a", "z9", "abcdefgh", "orders", "nots", "text", "integer"):
            self.assertEqual(parse_view(f"show {name} where {name} = {name} order {name}")[0], (name,))
        for run in ("abcdefghi", "1a", "0a", "01", "10000", "a_b", "A", "aB", "\u00e4", "\u0661"):
            self.assertEqual(self.told(f"show {run}")[1], TOKEN)

    def test_texts_and_marks(self):
        for text in ("''", "'a'", "'abcdef'"):
            self.assertEqual(condition_of("a = " + text), ("=", "a", ("value", text[1:-1])))
        for text in ("'abcdefg'", "'abcdefgh'", "'", "'a", "'abcdef", "a'", "'A'", "'a b'", "'a1'", "'1'", "' '", "'a '", "' a'",
                     "'-'", "'\n'", "\"a\"", "'\u00e4'", "'a,'", "`a`"):
            self.refused("show a where b = 1 and a = " + text, 10 if text != "a'" else 11, TOKEN)
            self.assertEqual(view_refusal("show a where b = 1 and a = " + text), (10 if text != "a'" else 11, TOKEN))
        self.refused("show a where a = '''", 7, TOKEN)
        self.refused("show a where a = 'b''c'", 7, TOKEN)
        self.refused("show a where a = 'b'c", 7, TOKEN)
        self.refused("show a where a = 'abcdefg'b'", 6, TOKEN)
        self.refused("show a where a = '' ''", 7, TOKEN)

    def test_numbers(self):
        for number in ("- 1", "-0", "-01", "-00", "--1", "-", "-a", "-10000", "+1", "10000", "00", "01", "1a", "-1a", "-'a'", "1.5",
                       "- 0", "-\n1", "99999"):
            place = 7 if number == "1.5" else 6
            self.refused("show a where a = " + number, place, TOKEN)
            self.assertEqual(view_refusal("show a where a = " + number), (place, TOKEN))
        self.refused("show a where a = b -1", 7, TOKEN)
        self.refused("show a where a = b-1", 7, TOKEN)
        self.refused("show a where a = 2-1", 7, TOKEN)
        self.refused("show -1", 2, TOKEN)
        self.refused("show a where -1 = a", 4, TOKEN)
        self.assertEqual(condition_of("a=-1 and b=-2"), ("and", (("=", "a", ("value", -1)), ("=", "b", ("value", -2)))))

    def test_two_hundred_characters(self):
        text = "show a where a = 1"
        self.assertEqual(parse_view(text + " " * (200 - len(text))), parse_view(text))
        self.refused(text + " " * (201 - len(text)), 0, LONG)
        self.refused("nonsense" + " " * 192, 1, TOKEN)
        self.refused("nonsense" + " " * 193, 0, LONG)
        self.refused(" " * 200, 1, END)
        self.refused("\n" * 201, 0, LONG)
        self.refused("(" * 200, 1, TOKEN)
        self.refused("show a where " + "(" * 187, 3 + 187 + 1, END)
        self.refused("show a where " + "(" * 186 + ")", 3 + 186 + 1, TOKEN)
        self.refused("show a where " + "(" * 188, 0, LONG)
        self.refused("show a where " + " or ".join(["a=1"] * 30), 0, LONG)

    def test_twelve_and_thirteen_atoms(self):
        for atom, sign in itertools.product(("a=1", "a is none", "a<b", "a>''"), ("and", "or")):
            joined = f" {sign} ".join
            self.assertEqual(len(condition_of(joined([atom] * 12))[1]), 12)
            if len("show x where " + joined([atom] * 13)) <= 200:
                self.refused("show x where " + joined([atom] * 13), 0, LARGE)
                self.refused("show x where " + joined([atom] * 13) + " first 1", 0, LARGE)
        self.refused("show x where " + " or ".join(["a=1"] * 14), 0, LARGE)
        self.refused("show x where (" + " or ".join(["a=1"] * 7) + ") and not (" + " and ".join(["a=1"] * 6) + ")", 0, LARGE)
        self.assertEqual(condition_of("not " * 12 + "a=1 or " + " or ".join(["not b is none"] * 6))[0], "or")
        # What makes no atom is not counted.
        text = "show a, b, c where " + " and ".join(["a=1"] * 12) + " order a, b, c first 1"
        self.assertEqual(len(parse_view(text)[1][1]), 12)

    def test_too_many_atoms_in_a_text_that_is_wrong_elsewhere(self):
        many = " or ".join(["a=1"] * 13)
        count = 13 * 4 - 1
        for text, token, reason in (
            (f"show x where {many} order", 3 + count + 2, END),
            (f"show x where {many} or", 3 + count + 2, END),
            (f"show x where {many} x", 3 + count + 1, TOKEN),
            (f"show x where {many})", 3 + count + 1, TOKEN),
            (f"show x where ({many}", 3 + count + 2, END),
            (f"show x where {many} first 0", 3 + count + 2, TOKEN),
            (f"show where {many}", 2, TOKEN),
            (f"x show where {many}", 1, TOKEN),
        ):
            self.refused(text, token, reason)
        self.refused("show x where " + " or ".join(["a=1"] * 12) + " order", 3 + 47 + 2, END)

    def test_against_the_grammar(self):
        right = (
            "show a", "show a , b where not ( a is none or b < -5 ) and c = 'x' order a descending , b first 3",
            "show a where a = b order c first 1", "show a where ( not ( a > 1 ) ) or b = '' and c is none",
            "show a , b , c , d , e , f order a , b , c", "show a first 9",
        )
        others = (*VIEW_WORDS, ",", "(", ")", *SIGNS, "0", "1", "-1", "-0", "'a'", "''", "'", "-", "a", "over", "sum", "abcdefghi", "01",
                  "!", "A", ";", "'abcdefg'", "10000")
        for text in right:
            self.assertIsNone(self.told(text))
            tokens = text.split(" ")
            for place in range(len(tokens) + 1):
                ahead, behind = tokens[:place], tokens[place:]
                for lines in ([ahead], [ahead, behind[1:]], *([ahead, [other], rest] for other in others
                                                              for rest in ([], behind, behind[1:]))):
                    some = " ".join(token for line in lines for token in line)
                    self.assertEqual(self.told(some), view_refusal(some), some)

    def test_against_the_grammar_at_random(self):
        dice = random.Random(3)
        tokens = ("show", "where", "order", "first", "is none", "not", "and", "or", "(", ")", ",", "=", "<", "a", "b", "a = 1", "b is none",
                  "c > 'x'", "2", "-3", "''", "descending")
        for _ in range(6000):
            text = "show a " + dice.choice(("", "where ")) + " ".join(dice.choice(tokens) for _ in range(dice.randrange(12)))
            self.assertEqual(self.told(text), view_refusal(text), text)


class WrittenTest(unittest.TestCase):
    def test_each_shape(self):
        for condition, wanted in (
            (A, "a is none"),
            (("=", "a", ("value", 1)), "a = 1"),
            (("<", "a", ("value", -1)), "a < -1"),
            ((">", "a", ("value", "")), "a > ''"),
            (("=", "a", ("value", "b")), "a = 'b'"),
            (("=", "a", ("name", "b")), "a = b"),
            (("not", A), "not a is none"),
            (("not", ("not", A)), "not not a is none"),
            (("not", ("and", (A, B))), "not (a is none and b is none)"),
            (("not", ("or", (A, B))), "not (a is none or b is none)"),
            (("not", ("not", ("or", (A, B)))), "not not (a is none or b is none)"),
            (("and", (A, B)), "a is none and b is none"),
            (("or", (A, B)), "a is none or b is none"),
            (("and", (A, ("not", B), C)), "a is none and not b is none and c is none"),
            (("or", (("not", A), ("not", B))), "not a is none or not b is none"),
            (("and", (("or", (A, B)), C)), "(a is none or b is none) and c is none"),
            (("and", (A, ("or", (B, C)))), "a is none and (b is none or c is none)"),
            (("and", (("and", (A, B)), C)), "(a is none and b is none) and c is none"),
            (("or", (("or", (A, B)), C)), "(a is none or b is none) or c is none"),
            (("or", (("and", (A, B)), C)), "a is none and b is none or c is none"),
            (("or", (A, ("and", (B, ("or", (A, C)))))), "a is none or b is none and (a is none or c is none)"),
            (("not", ("or", (("and", (A, B)), ("not", C)))), "not (a is none and b is none or not c is none)"),
        ):
            view = (("x", "y"), condition, (), None)
            with self.subTest(wanted):
                text = view_text(view)
                self.assertEqual(text, "show x, y where " + wanted)
                self.assertEqual(parse_view(text), view)
                self.assertEqual(text, "show x, y where " + written(condition))
                self.assertIs(type(text), str)

    def test_the_other_parts(self):
        for text in ("show a", "show a, b, c", "show a order b", "show a order b descending, c, d descending", "show a first 1",
                     "show a where a is none order a first 12", "show a where (a = 1 or b = 2) and c = 3 first 4",
                     "show a where not (a = 1 or b = 2) order c"):
            self.assertEqual(view_text(parse_view(text)), text)
            self.assertEqual(view_text(parse_view(text.replace(" ", "\n  "))), text)

    def test_at_random(self):
        dice = random.Random(8)
        checked = 0
        while checked < 1500:
            names = tuple(dice.choice("abcd") for _ in range(dice.randrange(1, 7)))
            condition = random_condition(dice, "abcd", dice.randrange(1, 8)) if dice.random() < 0.9 else None
            keys = tuple((dice.choice("abcd"), dice.random() < 0.5) for _ in range(dice.randrange(4)))
            most = dice.choice((None, 1, 12))
            start = "show " + ", ".join(names)
            end = " order " * bool(keys) + ", ".join(name + " descending" * down for name, down in keys)
            end += f" first {most}" if most else ""
            wanted = start + (" where " + written(condition) if condition else "") + end
            text = loose_spaces(dice, start + (" where " + loose(dice, condition) if condition else "") + end)
            if max(len(wanted), len(text)) > 200:
                continue
            checked += 1
            view = (names, condition, keys, most)
            self.assertEqual(parse_view(text), view, text)
            self.assertEqual(view_text(view), wanted)
            self.assertEqual(parse_view(wanted), view)


class ArgumentsTest(unittest.TestCase):
    def test_names_of_arguments(self):
        for function, names in (("parse_view", ["text"]), ("view_text", ["view"]), ("fits", ["view", "columns"]),
                                ("holds", ["condition", "columns", "cells"])):
            self.assertEqual(list(inspect.signature(getattr(conditions_file, function)).parameters), names)


if __name__ == "__main__":
    unittest.main()
