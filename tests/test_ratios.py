"""Point 4: exact fractions and their texts."""

import random
import unittest
from fractions import Fraction

from anymend.errors import BadNumber, BadText
from anymend.ratios import ratio_of, ratio_text

NO_RATIOS = [
    True, False, None, "", "1", "1/2", b"1", 1.0, 0.5, Fraction(1, 2), [], [1, 2], [1], {}, {1: 2},
    {1, 2}, object(), int,
    (), (1,), (1, 2, 3), (0, 0), (1, 0), (-1, 0), (1, -2), (-1, -2), (0, -1),
    (True, 2), (False, 2), (1, True), (2, False), (True, True),
    (1.0, 2), (1, 2.0), ("1", 2), (1, "2"), ("1", "2"), (None, 1), (1, None),
    ((1, 2), 3), (1, (2, 3)), ([1], 2), ((1, 2),),
]


class RatioOfTest(unittest.TestCase):
    def check(self, text, top, bottom):
        found = ratio_of(text)
        self.assertEqual(found, (top, bottom), text)
        self.assertIs(found.__class__, tuple)
        for number in found:
            self.assertIs(number.__class__, int)

    def wrong(self, text, column):
        with self.assertRaises(BadText) as seen:
            ratio_of(text)
        self.assertEqual((seen.exception.line, seen.exception.column), (1, column), repr(text))

    def test_without_a_slash(self):
        for text, number in (("0", 0), ("7", 7), ("42", 42), ("1234567890", 1234567890), ("9876543210", 9876543210)):
            self.check(text, number, 1)
            self.check("-" + text, -number, 1)

    def test_with_a_slash(self):
        self.check("1/2", 1, 2)
        self.check("-3/1", -3, 1)
        self.check("0/1", 0, 1)
        self.check("-22/7", -22, 7)
        self.check("7/10", 7, 10)
        self.check("1/1234567890", 1, 1234567890)

    def test_lowest_terms(self):
        self.check("6/4", 3, 2)
        self.check("-6/4", -3, 2)
        self.check("4/2", 2, 1)
        self.check("-4/2", -2, 1)
        self.check("5/5", 1, 1)
        self.check("-100/100", -1, 1)
        self.check("0/7", 0, 1)
        self.check("0/100", 0, 1)
        self.check("12/18", 2, 3)

    def test_leading_zeros(self):
        self.check("007", 7, 1)
        self.check("-007", -7, 1)
        self.check("00", 0, 1)
        self.check("001/002", 1, 2)
        self.check("-0010/0004", -5, 2)
        self.check("3/01", 3, 1)
        self.check("1/010", 1, 10)

    def test_zero_with_a_sign(self):
        self.check("-0", 0, 1)
        self.check("-000", 0, 1)
        self.check("-0/5", 0, 1)
        self.check("-00/0010", 0, 1)

    def test_rows_of_400_digits(self):
        chance = random.Random(4)
        for _ in range(20):
            top = "".join(chance.choice("0123456789") for _ in range(400))
            bottom = "".join(chance.choice("0123456789") for _ in range(399)) + "1"
            for sign in ("", "-"):
                ratio = Fraction(int(sign + top), int(bottom))
                self.check(sign + top + "/" + bottom, ratio.numerator, ratio.denominator)
                self.check(sign + top, int(sign + top), 1)
        self.check("9" * 400 + "/" + "3" * 400, 3, 1)
        self.check("0" * 399 + "1/" + "0" * 399 + "2", 1, 2)
        self.wrong("9" * 400 + "/" + "0" * 400, 402)
        self.wrong("9" * 400 + "/", 402)
        self.wrong("9" * 400 + "/" + "1" * 400 + "/", 802)

    def test_small_texts_against_fractions(self):
        for top in range(-25, 26):
            for bottom in range(1, 26):
                ratio = Fraction(top, bottom)
                self.check(f"{top}/{bottom}", ratio.numerator, ratio.denominator)

    def test_no_string(self):
        for value in (None, True, 0, 1, -5, 1.5, b"1", b"", [], ["1"], (1, 2), ("1",), {}, {"1": 1}, object(), str):
            with self.assertRaises(BadText) as seen:
                ratio_of(value)
            self.assertEqual((seen.exception.line, seen.exception.column), (0, 0), repr(value))

    def test_only_a_beginning(self):
        self.wrong("", 1)
        self.wrong("-", 2)
        self.wrong("1/", 3)
        self.wrong("-1/", 4)
        self.wrong("123/", 5)
        self.wrong("-0012/", 7)
        self.wrong("0/", 3)

    def test_blanks(self):
        self.wrong(" ", 1)
        self.wrong(" 1", 1)
        self.wrong("1 ", 2)
        self.wrong("- 1", 2)
        self.wrong("1 /2", 2)
        self.wrong("1/ 2", 3)
        self.wrong("1/2 ", 4)
        self.wrong("12 34", 3)
        self.wrong("\t1", 1)

    def test_line_feeds(self):
        self.wrong("\n", 1)
        self.wrong("\n1", 1)
        self.wrong("1\n", 2)
        self.wrong("-12\n", 4)
        self.wrong("1/2\n", 4)
        self.wrong("1/\n2", 3)
        self.wrong("1/2\n3", 4)
        self.wrong("1/2\r\n", 4)

    def test_signs(self):
        self.wrong("+", 1)
        self.wrong("+1", 1)
        self.wrong("--1", 2)
        self.wrong("-+1", 2)
        self.wrong("1-", 2)
        self.wrong("1-2", 2)
        self.wrong("1/-2", 3)
        self.wrong("1/+2", 3)
        self.wrong("-1/-2", 4)
        self.wrong("1/2-", 4)
        self.wrong("\u22121", 1)

    def test_slashes(self):
        self.wrong("/", 1)
        self.wrong("/2", 1)
        self.wrong("-/2", 2)
        self.wrong("1//2", 3)
        self.wrong("1/2/", 4)
        self.wrong("1/2/3", 4)
        self.wrong("1\\2", 2)

    def test_other_signs(self):
        self.wrong("a", 1)
        self.wrong("1a", 2)
        self.wrong("1.5", 2)
        self.wrong("1_000", 2)
        self.wrong("1,5", 2)
        self.wrong("1e3", 2)
        self.wrong("0x10", 2)
        self.wrong("1/a", 3)
        self.wrong("12/34b5", 6)
        # The signs just ahead of 0 and just behind 9.
        self.wrong("1:", 2)
        self.wrong("1/2:", 4)
        self.wrong("1/:", 3)
        self.wrong(".1", 1)

    def test_digits_of_other_scripts(self):
        for sign in ("\u0663", "\u00b2", "\uff11", "\u0967", "\U0001d7d9", "\u2460", "\u00bd"):
            self.wrong(sign, 1)
            self.wrong("-" + sign, 2)
            self.wrong("1" + sign, 2)
            self.wrong("1/" + sign, 3)
            self.wrong("1/2" + sign, 4)

    def test_second_row_of_zeros(self):
        self.wrong("1/0", 3)
        self.wrong("0/0", 3)
        self.wrong("-1/0", 4)
        self.wrong("123/000", 5)
        self.wrong("-0012/00", 7)

    def test_zeros_count_only_in_a_whole_text(self):
        self.wrong("1/0x", 4)
        self.wrong("1/00 ", 5)
        self.wrong("1/0/1", 4)
        self.wrong("1/000\n", 6)
        self.wrong("-1/0-", 5)


class RatioTextTest(unittest.TestCase):
    def test_integers(self):
        for number in (0, 1, 7, 10, 100, 1234567890, 10 ** 18, 10 ** 60, 10 ** 61 + 3, 10 ** 120):
            self.assertEqual(ratio_text(number), str(number))
            self.assertEqual(ratio_text(-number), str(-number))
            self.assertEqual(ratio_text((number, 1)), str(number))
            self.assertEqual(ratio_text((-number, 1)), str(-number))

    def test_pairs(self):
        self.assertEqual(ratio_text((1, 2)), "1/2")
        self.assertEqual(ratio_text((-3, 1)), "-3")
        self.assertEqual(ratio_text((0, 1)), "0")
        self.assertEqual(ratio_text((-22, 7)), "-22/7")
        self.assertEqual(ratio_text((1, 1000)), "1/1000")

    def test_pairs_in_any_terms(self):
        self.assertEqual(ratio_text((2, 4)), "1/2")
        self.assertEqual(ratio_text((6, 4)), "3/2")
        self.assertEqual(ratio_text((-6, 4)), "-3/2")
        self.assertEqual(ratio_text((4, 2)), "2")
        self.assertEqual(ratio_text((-4, 2)), "-2")
        self.assertEqual(ratio_text((0, 9)), "0")
        self.assertEqual(ratio_text((50, 100)), "1/2")
        self.assertEqual(ratio_text((-100, 100)), "-1")

    def test_it_returns_a_string(self):
        for ratio in (0, 5, (1, 2), (-4, 2)):
            self.assertIs(ratio_text(ratio).__class__, str)

    def test_small_ratios_against_fractions(self):
        for top in range(-30, 31):
            for bottom in range(1, 31):
                text = ratio_text((top, bottom))
                self.assertEqual(text, str(Fraction(top, bottom)))
                self.assertEqual(Fraction(*ratio_of(text)), Fraction(top, bottom))

    def test_no_text_is_shorter(self):
        least = {}
        for top in range(-99, 100):
            for text in [str(top)] + [f"{top}/{bottom}" for bottom in range(1, 100)]:
                ratio = ratio_of(text)
                least[ratio] = min(least.get(ratio, len(text)), len(text))
        for ratio, length in least.items():
            self.assertEqual(len(ratio_text(ratio)), length, ratio)

    def test_long_numbers(self):
        chance = random.Random(5)
        for digits in (59, 60, 61, 119, 120, 121, 399, 400):
            for _ in range(5):
                top = chance.randrange(-10 ** digits, 10 ** digits)
                bottom = chance.randrange(1, 10 ** digits)
                ratio = Fraction(top, bottom)
                text = ratio_text((top, bottom))
                self.assertEqual(text, str(ratio))
                self.assertEqual(ratio_of(text), (ratio.numerator, ratio.denominator))

    def test_no_ratio(self):
        for value in NO_RATIOS:
            with self.assertRaises(BadNumber) as seen:
                ratio_text(value)
            self.assertEqual(seen.exception.what, "ratio", repr(value))
            self.assertIs(seen.exception.number, value)


if __name__ == "__main__":
    unittest.main()
