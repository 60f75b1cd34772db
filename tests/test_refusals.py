"""Texts that are no definitions (t1 to t3): which token is told, and why."""

import unittest

from grammar import FUNCTIONS, UNITS, WORDS, refusal, tokens_of
from windowtable.errors import BadText
from windowtable.reading import parse_definition

TOKEN = "unexpected token"
END = "unexpected end"
LONG = "text too long"

# Together they have each part of the grammar, present and absent.
RIGHT = (
    "t = number over ()",
    "t = rank over (order a)",
    "t = dense over (partition a)",
    "t = size over (rows start to current)",
    "t = tile 4 over (partition a order b)",
    "t = lag x 0 over (order a descending)",
    "t = lead x 12 over (partition a, b order c, d)",
    "t = nth x 2 over (groups 1 before to 1 after)",
    "t = count x over (range current to end without current)",
    "t = different x over (partition a, b, c)",
    "t = sum x over (order a, b descending, c descending)",
    "t = least x over (order a, b, c rows 1 after to 2 after without group)",
    "t = greatest x over (partition a, b, c range start to end without ties)",
    "t = median x over (partition a order b descending groups end to start)",
    "t = first x over (partition a, b order c descending, d range 3 before to 4 before without group)",
    "t = last x over (partition a, b, c order d, e descending, f rows current to 9999 after without ties)",
)
MARKS = ("=", "(", ")", ",")
NUMBERS = ("0", "1", "9999")
NAMES = ("a", "abcdefgh", "nothing")
NO_TOKENS = (
    "10000", "99999", "00", "01", "007", "0000", "1a", "2before", "0x", "abcdefghi", "a23456789", "descendings",
    "A", "Z", "_", "-", "+", "*", ";", ":", ".", "'", "\"", "<", ">", "[", "]", "{", "}", "/", "\\", "$", "#", "!",
    "\t", "\r", "\x0b", "\x0c", "\x00", "\x7f", "\xa0", "\u00e9", "\u0430", "\u0661", "\u00b2", "\uff10", "\uff41",
    "\u2028", "\u3000",
)
ALPHABET = (*WORDS, *MARKS, *NUMBERS, *NAMES, *NO_TOKENS)


class RefusalsTestCase(unittest.TestCase):
    def refused(self, text, token, reason):
        with self.subTest(text=text):
            with self.assertRaises(BadText) as caught:
                parse_definition(text)
            self.assertIs(type(caught.exception), BadText)
            self.assertEqual((caught.exception.token, caught.exception.reason), (token, reason))

    def told(self, text):
        try:
            parse_definition(text)
        except BadText as error:
            self.assertIs(type(error), BadText)
            return (error.token, error.reason)
        return None


class PlacesTest(RefusalsTestCase):
    def test_a_token_that_fits_nowhere_in_its_place(self):
        for text, token in (
            ("= sum x over ()", 1),
            ("1 = sum x over ()", 1),
            ("sum = sum x over ()", 1),
            ("t sum x over ()", 2),
            ("t ( sum x over ()", 2),
            ("t = x over ()", 3),
            ("t = 3 over ()", 3),
            ("t = over ()", 3),
            ("t = = sum x over ()", 3),
            ("t = number x over ()", 4),
            ("t = rank 1 over ()", 4),
            ("t = dense ( over ()", 4),
            ("t = size x over ()", 4),
            ("t = tile x over ()", 4),
            ("t = tile over ()", 4),
            ("t = tile 2 x over ()", 5),
            ("t = lag 1 over ()", 4),
            ("t = lag x over ()", 5),
            ("t = lag x y over ()", 5),
            ("t = lag x 1 1 over ()", 6),
            ("t = lead 2 x over ()", 4),
            ("t = lead x over ()", 5),
            ("t = nth 2 over ()", 4),
            ("t = nth x over ()", 5),
            ("t = nth x x over ()", 5),
            ("t = sum over ()", 4),
            ("t = sum 1 over ()", 4),
            ("t = sum x 1 over ()", 5),
            ("t = sum x y over ()", 5),
            ("t = sum x ()", 5),
            ("t = sum x over partition a)", 6),
            ("t = sum x over over ()", 6),
            ("t = sum x over )", 6),
            ("t = sum x over (())", 7),
            ("t = sum x over (a)", 7),
            ("t = sum x over (1)", 7),
            ("t = sum x over (,)", 7),
            ("t = sum x over (partition)", 8),
            ("t = sum x over (partition order a)", 8),
            ("t = sum x over (partition , a)", 8),
            ("t = sum x over (partition a b)", 9),
            ("t = sum x over (partition a descending)", 9),
            ("t = sum x over (partition a,)", 10),
            ("t = sum x over (partition a,, b)", 10),
            ("t = sum x over (partition a partition b)", 9),
            ("t = sum x over (order)", 8),
            ("t = sum x over (order descending)", 8),
            ("t = sum x over (order a b)", 9),
            ("t = sum x over (order a descending descending)", 10),
            ("t = sum x over (order a descending b)", 10),
            ("t = sum x over (order a,)", 10),
            ("t = sum x over (order a, descending)", 10),
            ("t = sum x over (order a order b)", 9),
            ("t = sum x over (order a partition b)", 9),
            ("t = sum x over (rows)", 8),
            ("t = sum x over (rows rows)", 8),
            ("t = sum x over (rows to end)", 8),
            ("t = sum x over (rows before to end)", 8),
            ("t = sum x over (rows x before to end)", 8),
            ("t = sum x over (rows 1 to end)", 9),
            ("t = sum x over (rows 1 start to end)", 9),
            ("t = sum x over (rows start end)", 9),
            ("t = sum x over (rows start before to end)", 9),
            ("t = sum x over (rows start)", 9),
            ("t = sum x over (rows start, end)", 9),
            ("t = sum x over (rows start to)", 10),
            ("t = sum x over (rows start to to end)", 10),
            ("t = sum x over (rows start to without ties)", 10),
            ("t = sum x over (rows start to 2)", 11),
            ("t = sum x over (rows start to 2 end)", 11),
            ("t = sum x over (rows start to 2 before after)", 12),
            ("t = sum x over (rows start to end ties)", 11),
            ("t = sum x over (rows start to end order a)", 11),
            ("t = sum x over (rows start to end partition a)", 11),
            ("t = sum x over (rows start to end range start to end)", 11),
            ("t = sum x over (rows start to end without)", 12),
            ("t = sum x over (rows start to end without nothing)", 12),
            ("t = sum x over (rows start to end without groups)", 12),
            ("t = sum x over (rows start to end without 1)", 12),
            ("t = sum x over (rows start to end without group ties)", 13),
            ("t = sum x over (rows start to end without group without ties)", 13),
            ("t = sum x over () )", 8),
            ("t = sum x over () x", 8),
            ("t = sum x over () t = sum x over ()", 8),
        ):
            self.refused(text, token, TOKEN)
            self.assertEqual(refusal(text), (token, TOKEN), text)

    def test_every_token_at_every_place(self):
        for text in RIGHT:
            tokens = tokens_of(text)
            for place in range(len(tokens) + 1):
                for token in ALPHABET:
                    for behind in (tokens[place:], tokens[place + 1:], []):
                        changed = " ".join([*tokens[:place], token, *behind])
                        if self.told(changed) != refusal(changed):
                            self.fail((changed, self.told(changed), refusal(changed)))

    def test_a_token_left_out(self):
        for text in RIGHT:
            tokens = tokens_of(text)
            for place in range(len(tokens)):
                for many in (1, 2, 3):
                    shorter = " ".join(tokens[:place] + tokens[place + many:])
                    self.assertEqual(self.told(shorter), refusal(shorter), shorter)

    def test_only_the_first_one_is_told(self):
        self.refused("t = foo over ($ 007", 3, TOKEN)
        self.refused("T = 007", 1, TOKEN)
        self.refused("t = sum x over (partition a b $", 9, TOKEN)
        self.refused("t = sum over", 4, TOKEN)

    def test_right_texts_are_right(self):
        for text in RIGHT:
            with self.subTest(text=text):
                self.assertIsNone(self.told(text))
                self.assertIsNone(refusal(text))


class EndsTest(RefusalsTestCase):
    def test_nothing_at_all(self):
        self.refused("", 1, END)
        self.refused(" ", 1, END)
        self.refused("\n \n", 1, END)
        self.refused(" " * 200, 1, END)

    def test_cut_behind_each_token(self):
        for text in RIGHT:
            tokens = tokens_of(text)
            for many in range(len(tokens)):
                cut = " ".join(tokens[:many])
                self.refused(cut, many + 1, END)
                self.refused(cut + " \n ", many + 1, END)

    def test_counted_by_tokens(self):
        self.refused("t=sum x over(partition a,b", 11, END)
        self.refused("t = sum x over (rows 1", 9, END)
        self.refused("t", 2, END)


class LengthTest(RefusalsTestCase):
    def test_two_hundred_and_one(self):
        for text in RIGHT:
            self.assertIsNone(self.told(text.ljust(200)))
            self.refused(text.ljust(201), 0, LONG)
            self.refused(text.rjust(201), 0, LONG)
            self.refused(text.ljust(201, "\n"), 0, LONG)

    def test_ahead_of_all_other_reasons(self):
        self.refused(" " * 201, 0, LONG)
        self.refused("$" * 201, 0, LONG)
        self.refused("a" * 201, 0, LONG)
        self.refused("t = " + "x " * 100, 0, LONG)
        self.refused("9" * 100000, 0, LONG)

    def test_two_hundred_are_looked_at(self):
        self.refused("$" * 200, 1, TOKEN)
        self.refused("a" * 200, 1, TOKEN)
        self.refused("9" * 200, 1, TOKEN)
        self.refused(("t = tile " + "9" * 200)[:200], 4, TOKEN)
        self.refused("t = sum x over ()".ljust(199) + "x", 8, TOKEN)
        self.refused("t = sum x over (".ljust(200), 7, END)


class NumbersTest(RefusalsTestCase):
    PLACES = (
        ("t = tile {} over ()", 4), ("t = lag x {} over ()", 5), ("t = lead x {} over ()", 5),
        ("t = nth x {} over ()", 5), ("t = size over (rows {} before to end)", 7),
        ("t = size over (range start to {} after)", 9), ("t = size over (groups {} after to 1 after)", 7),
    )

    def test_a_zero_at_the_beginning(self):
        for text, token in self.PLACES:
            for number in ("00", "01", "007", "0001", "01234", "09999", "0000"):
                self.refused(text.format(number), token, TOKEN)

    def test_beyond_the_bound(self):
        for text, token in self.PLACES:
            for number in ("10000", "10001", "99999", "100000", "9" * 40):
                self.refused(text.format(number), token, TOKEN)

    def test_no_digits_alone(self):
        for text, token in self.PLACES:
            for number in ("1a", "a1", "1before", "-1", "+1", "\u0661", "\u00b2", "\uff11"):
                self.refused(text.format(number), token, TOKEN)

    def test_at_the_bounds(self):
        for text, token in self.PLACES:
            with self.subTest(text):
                self.assertIsNone(self.told(text.format("1")))
                self.assertIsNone(self.told(text.format("9999")))

    def test_zero_is_no_count(self):
        self.refused("t = tile 0 over ()", 4, TOKEN)
        self.refused("t = nth x 0 over ()", 5, TOKEN)
        for text, token in self.PLACES:
            if "tile" not in text and "nth" not in text:
                with self.subTest(text):
                    self.assertIsNone(self.told(text.format("0")))

    def test_marks_are_not_part_of_a_number(self):
        self.refused("t = tile 9,999 over ()", 5, TOKEN)
        self.refused("t = tile 1.0 over ()", 5, TOKEN)


class NamesTest(RefusalsTestCase):
    PLACES = (
        ("{} = size over ()", 1), ("t = sum {} over ()", 4), ("t = lag {} 1 over ()", 4), ("t = nth {} 1 over ()", 4),
        ("t = size over (partition {})", 7), ("t = size over (partition a, {})", 9),
        ("t = size over (partition a, b, {})", 11), ("t = size over (order {})", 7),
        ("t = size over (order a, {})", 9), ("t = size over (order a descending, b, {})", 12),
    )

    def test_eight_and_nine_characters(self):
        for text, token in self.PLACES:
            for name in ("abcdefgh", "a2345678", "zzzzzzzz"):
                with self.subTest(text, name=name):
                    self.assertIsNone(self.told(text.format(name)))
            for name in ("abcdefghi", "a23456789", "abcdefgh1", "a" * 40):
                self.refused(text.format(name), token, TOKEN)

    def test_a_digit_first(self):
        for text, token in self.PLACES:
            for name in ("1", "0", "1a", "9abc", "0a", "1234567a"):
                self.refused(text.format(name), token, TOKEN)

    def test_words_in_place_of_names(self):
        for text, token in self.PLACES:
            for word in WORDS:
                self.refused(text.format(word), token, TOKEN)

    def test_other_letters(self):
        for text, token in self.PLACES:
            for name in ("A", "Abc", "_a", "-", "'a'", "\u00e9", "\u0430", "\uff41"):
                self.refused(text.format(name), token, TOKEN)

    def test_names_in_place_of_words(self):
        for text, token in (("t = x over ()", 3), ("t = size x ()", 4), ("t = size overs ()", 4),
                            ("t = size over (partitio a)", 6), ("t = size over (order a desc)", 8),
                            ("t = size over (row start to end)", 6), ("t = size over (rows begin to end)", 7)):
            self.refused(text, token, TOKEN)


class FourthNameTest(RefusalsTestCase):
    def test_partition(self):
        self.assertIsNone(self.told("t = size over (partition a, b, c)"))
        self.refused("t = size over (partition a, b, c, d)", 12, TOKEN)
        self.refused("t = size over (partition a, b, c,)", 12, TOKEN)
        self.refused("t = size over (partition a, b, c,", 12, TOKEN)
        self.refused("t = size over (partition a, b, c d)", 12, TOKEN)

    def test_order(self):
        self.assertIsNone(self.told("t = size over (order a, b, c)"))
        self.refused("t = size over (order a, b, c, d)", 12, TOKEN)
        self.refused("t = size over (order a, b, c descending, d)", 13, TOKEN)
        self.refused("t = size over (order a descending, b descending, c descending, d)", 15, TOKEN)
        self.refused("t = size over (order a, b, c,)", 12, TOKEN)
        self.refused("t = size over (order a, b, c,", 12, TOKEN)

    def test_each_is_counted_by_itself(self):
        self.assertIsNone(self.told("t = size over (partition a, b, c order d, e, f)"))
        self.refused("t = size over (partition a, b, c order d, e, f, g)", 18, TOKEN)
        self.refused("t = size over (partition a, b, c, d order e)", 12, TOKEN)


class CharactersTest(RefusalsTestCase):
    def test_characters_that_are_no_tokens(self):
        for code in [*range(128), 0xA0, 0xAA, 0xB2, 0xDF, 0xE9, 0x430, 0x661, 0x2003, 0x2028, 0x3000, 0xFF10, 0xFF41,
                     0x1F600]:
            character = chr(code)
            if character in " \n=()," or "a" <= character <= "z" or "0" <= character <= "9":
                continue
            self.refused(character, 1, TOKEN)
            self.refused("t" + character + " = size over ()", 2, TOKEN)
            self.refused("t = size" + character + "over ()", 4, TOKEN)
            self.refused("t = size over (" + character + ")", 6, TOKEN)
            self.refused("t = size over ()" + character, 7, TOKEN)

    def test_each_is_a_token_by_itself(self):
        self.refused("t = size over () $$$", 7, TOKEN)
        self.refused("tA = size over ()", 2, TOKEN)
        self.refused("t = size Over ()", 4, TOKEN)
        self.refused("t == size over ()", 3, TOKEN)

    def test_runs_go_as_long_as_they_go(self):
        self.refused("t = lag x 1over ()", 5, TOKEN)
        self.refused("t = sizeover ()", 3, TOKEN)
        self.refused("t = size over (rows 2before to end)", 7, TOKEN)
        self.refused("t = sumx over ()", 3, TOKEN)
        self.refused("t = tile4 over ()", 3, TOKEN)
        self.refused("t = size over (partitiona)", 6, TOKEN)

    def test_blanks_part_runs(self):
        self.refused("t t = size over ()", 2, TOKEN)
        self.refused("t = lag x 1 0 over ()", 6, TOKEN)
        self.refused("t = si ze over ()", 3, TOKEN)
        self.refused("t = lag x 1\n0 over ()", 6, TOKEN)


class WordsTest(RefusalsTestCase):
    def test_there_are_thirty_two(self):
        self.assertEqual(len(WORDS), 32)
        self.assertEqual(len(FUNCTIONS), 16)

    def test_only_functions_are_functions(self):
        for word in WORDS:
            if word not in FUNCTIONS:
                self.refused(f"t = {word} x over ()", 3, TOKEN)

    def test_only_units_are_units(self):
        for word in (*WORDS, "a", "1"):
            if word not in (*UNITS, "partition", "order"):
                self.refused(f"t = size over ({word} start to end)", 6, TOKEN)

    def test_only_bounds_are_bounds(self):
        for word in (*WORDS, "a"):
            if word not in ("start", "current", "end"):
                self.refused(f"t = size over (rows {word} to end)", 7, TOKEN)
                self.refused(f"t = size over (rows start to {word})", 9, TOKEN)
            if word not in ("before", "after"):
                self.refused(f"t = size over (rows 1 {word} to end)", 8, TOKEN)
                self.refused(f"t = size over (rows start to 1 {word})", 10, TOKEN)

    def test_only_exclusions_are_exclusions(self):
        for word in (*WORDS, "a", "nothing", "1"):
            if word not in ("current", "group", "ties"):
                self.refused(f"t = size over (rows start to end without {word})", 11, TOKEN)


if __name__ == "__main__":
    unittest.main()
