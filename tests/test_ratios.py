"""Tests of consol.ratios (points 3 to 6)."""

import random
import unittest
from fractions import Fraction
from math import floor

from consol.errors import DivisionByZero, InvalidNumber, TooLarge
from consol.ratios import (
    fraction, full_text, greater, is_fraction, minus, opposite, order, over, plus, products, read_fraction,
    show_fraction, sign, smaller, times, total, whole_part,
)

LARGE = 10 ** 60


def pair(value):
    """The tuple of a Fraction of the library, which the tests compare with."""
    return (value.numerator, value.denominator)


def samples():
    """Numbers of either sign, small ones and ones of up to 60 digits."""
    chance = random.Random(5)
    found = [Fraction(p, q) for p in range(-4, 5) for q in range(1, 5)]
    for _ in range(30):
        bound = 10 ** chance.randint(1, 60)
        found.append(Fraction(chance.randint(-bound, bound), chance.randint(1, bound)))
    found.extend([Fraction(LARGE), Fraction(-LARGE), Fraction(1, LARGE), Fraction(-1, LARGE)])
    found.extend([Fraction(LARGE, LARGE - 1), Fraction(1 - LARGE, LARGE)])
    return found


class IsFractionTest(unittest.TestCase):
    def test_fractions(self):
        for value in [(0, 1), (1, 1), (-1, 1), (1, 2), (-7, 3), (LARGE, 1), (LARGE, LARGE - 1), (-1, LARGE)]:
            self.assertIs(is_fraction(value), True, value)

    def test_samples(self):
        for value in samples():
            self.assertIs(is_fraction(pair(value)), True)

    def test_not_in_lowest_terms(self):
        for value in [(2, 4), (0, 2), (0, 7), (-3, 6), (2, 2), (LARGE, 10), (-LARGE, LARGE)]:
            self.assertIs(is_fraction(value), False, value)

    def test_denominators_below_one(self):
        for value in [(1, 0), (0, 0), (1, -1), (-1, -2), (0, -1), (3, -LARGE)]:
            self.assertIs(is_fraction(value), False, value)

    def test_truths_are_no_integers(self):
        for value in [(True, 1), (1, True), (False, 1), (True, True), (3, True), True, False]:
            self.assertIs(is_fraction(value), False, value)

    def test_values_of_other_kinds(self):
        class Odd:
            pass

        values = [
            None, 0, 1, 5, 1.5, "", "1/2", "12", b"12", [], [1, 2], (), (1,), (1, 2, 3), (1, 1, 1), {}, {1: 2},
            {1, 2}, frozenset([1, 2]), range(1, 3), (1.0, 2), (1, 2.0), ("1", "2"), ("1", 2), (1, "2"), (None, 1),
            (1, None), ((1, 2), 3), (1, (2, 3)), ([1], [2]), Fraction(1, 2), (Fraction(1), 2), object(), Odd(),
            Odd, (Odd(), 1), len, 1j, (1j, 1), float("nan"), (float("inf"), 1),
        ]
        for value in values:
            self.assertIs(is_fraction(value), False, repr(value))


class FractionTest(unittest.TestCase):
    def test_lowest_terms(self):
        self.assertEqual(fraction(6, -8), (-3, 4))
        self.assertEqual(fraction(-6, -8), (3, 4))
        self.assertEqual(fraction(-6, 8), (-3, 4))
        self.assertEqual(fraction(0, 5), (0, 1))
        self.assertEqual(fraction(0, -5), (0, 1))
        self.assertEqual(fraction(LARGE * 3, LARGE * 2), (3, 2))

    def test_of_an_integer(self):
        self.assertEqual(fraction(7), (7, 1))
        self.assertEqual(fraction(-7), (-7, 1))
        self.assertEqual(fraction(0), (0, 1))
        self.assertEqual(fraction(p=6, q=4), (3, 2))

    def test_division_by_zero(self):
        for p in (0, 1, -1, LARGE):
            with self.assertRaises(DivisionByZero):
                fraction(p, 0)

    def test_all_small_pairs(self):
        for p in range(-12, 13):
            for q in range(-12, 13):
                if q != 0:
                    self.assertEqual(fraction(p, q), pair(Fraction(p, q)))
                    self.assertTrue(is_fraction(fraction(p, q)))


class ArithmeticTest(unittest.TestCase):
    def test_two_numbers(self):
        for a in samples():
            for b in samples():
                self.assertEqual(plus(pair(a), pair(b)), pair(a + b))
                self.assertEqual(minus(pair(a), pair(b)), pair(a - b))
                self.assertEqual(times(pair(a), pair(b)), pair(a * b))
                if b != 0:
                    self.assertEqual(over(pair(a), pair(b)), pair(a / b))

    def test_division_by_zero(self):
        for a in [(0, 1), (1, 1), (-5, 3)]:
            with self.assertRaises(DivisionByZero):
                over(a, (0, 1))

    def test_opposite(self):
        for a in samples():
            self.assertEqual(opposite(pair(a)), pair(-a))

    def test_order(self):
        for a in samples():
            for b in samples():
                found = order(pair(a), pair(b))
                self.assertIs(type(found), int)
                self.assertEqual(found, (a > b) - (a < b))
                self.assertEqual(smaller(pair(a), pair(b)), pair(min(a, b)))
                self.assertEqual(greater(pair(a), pair(b)), pair(max(a, b)))

    def test_sign(self):
        for a in samples():
            self.assertIs(type(sign(pair(a))), int)
            self.assertEqual(sign(pair(a)), (a > 0) - (a < 0))

    def test_whole_part(self):
        for a in samples():
            self.assertEqual(whole_part(pair(a)), floor(a))
        self.assertEqual(whole_part((-7, 2)), -4)
        self.assertEqual(whole_part((-4, 1)), -4)
        self.assertEqual(whole_part((-1, LARGE)), -1)

    def test_total(self):
        self.assertEqual(total([]), (0, 1))
        self.assertEqual(total([(1, 2)]), (1, 2))
        self.assertEqual(total([(1, 2), (1, 3), (1, 6)]), (1, 1))
        values = samples()
        self.assertEqual(total([pair(value) for value in values]), pair(sum(values)))

    def test_products(self):
        self.assertEqual(products([], []), (0, 1))
        self.assertEqual(products([(1, 2), (3, 1)], [(2, 3), (-1, 9)]), (0, 1))
        first = samples()
        second = list(reversed(first))
        told = products([pair(value) for value in first], [pair(value) for value in second])
        self.assertEqual(told, pair(sum(a * b for a, b in zip(first, second))))

    def test_arguments_stay(self):
        first = [(1, 2), (1, 3)]
        second = [(2, 1), (3, 1)]
        total(first)
        products(first, second)
        self.assertEqual((first, second), ([(1, 2), (1, 3)], [(2, 1), (3, 1)]))

    def test_examples(self):
        self.assertEqual(plus((1, 6), (1, 3)), (1, 2))
        self.assertEqual(over((1, 2), (3, 1)), (1, 6))


class TextTest(unittest.TestCase):
    def test_read(self):
        told = {
            "0": (0, 1), "1": (1, 1), "-1": (-1, 1), "10": (10, 1), "5/2": (5, 2), "-5/2": (-5, 2), "1/10": (1, 10),
            "100/99": (100, 99), "999999999999": (999999999999, 1), "-999999999999": (-999999999999, 1),
            "999999999998/999999999999": (999999999998, 999999999999), "-1/999999999999": (-1, 999999999999),
        }
        for text, number in told.items():
            self.assertEqual(read_fraction(text), number)
            self.assertEqual(show_fraction(number), text)

    def test_nearly_texts(self):
        texts = [
            "", " ", "-", "+", "/", "-/", "+1", "+1/2", " 1", "1 ", "1 /2", "1/ 2", "- 1", "1\n", "\n1", "1\t", "00",
            "01", "-01", "1/02", "007/8", "-0", "-0/1", "0/1", "0/2", "0/0", "1/0", "5/1", "-5/1", "1/-2", "-1/-2",
            "1/+2", "4/2", "2/4", "-6/9", "1//2", "1/2/3", "/2", "1/", "--1", "1-", "1.0", "1.5", "1e3", "0x1", "1_0",
            "abc", "a", "1a", "a1", "one", "\u0661", "\u00b2", "1/\u0662", "\uff11", "None", "True", "1,000",
            "1234567890123", "-1234567890123", "1/1234567890123", "1234567890123/2", "0000000000001",
            "1000000000000", "1/1000000000000",
        ]
        for text in texts:
            with self.subTest(text), self.assertRaises(InvalidNumber) as caught:
                read_fraction(text)
            self.assertEqual(caught.exception.text, text)

    def test_single_characters(self):
        for code in range(256):
            for text in (chr(code), f"{chr(code)}5", f"5{chr(code)}", f"2{chr(code)}5"):
                if text not in ("-5", "2/5") and not (text.isascii() and text.isdigit() and str(int(text)) == text):
                    with self.subTest(text), self.assertRaises(InvalidNumber):
                        read_fraction(text)

    def test_very_long_texts(self):
        for text in ["9" * 5000, "1/" + "9" * 5000, "-" + "7" * 20000]:
            with self.assertRaises(InvalidNumber) as caught:
                read_fraction(text)
            self.assertEqual(caught.exception.text, text)

    def test_written_and_read(self):
        for p in range(-30, 31):
            for q in range(1, 13):
                number = fraction(p, q)
                text = show_fraction(number)
                self.assertEqual(text, str(Fraction(p, q)))
                self.assertEqual(read_fraction(text), number)

    def test_only_what_is_written_is_read(self):
        written = {show_fraction(fraction(p, q)) for p in range(-99, 100) for q in range(1, 100)}
        for p in range(100):
            for q in range(100):
                for text in (f"{p}/{q}", f"-{p}/{q}", f"{p}", f"-{p}", f"{p:02d}/{q:02d}"):
                    if text in written:
                        self.assertEqual(show_fraction(read_fraction(text)), text)
                    else:
                        with self.assertRaises(InvalidNumber):
                            read_fraction(text)

    def test_show_long_numbers(self):
        longest = 10 ** 1000 - 1
        self.assertEqual(show_fraction((longest, 1)), "9" * 1000)
        self.assertEqual(show_fraction((-longest, 1)), "-" + "9" * 1000)
        self.assertEqual(show_fraction((1, longest)), "1/" + "9" * 1000)
        self.assertEqual(show_fraction((-longest, longest - 1)), f"-{longest}/{longest - 1}")
        self.assertEqual(show_fraction((10 ** 999, 1)), "1" + "0" * 999)
        self.assertEqual(show_fraction((1234567890123, 5)), "1234567890123/5")

    def test_show_too_long_numbers(self):
        least = 10 ** 1000
        for number in [(least, 1), (-least, 1), (1, least), (-1, least), (least, least + 1), (3, 10 ** 6000)]:
            with self.assertRaises(TooLarge) as caught:
                show_fraction(number)
            self.assertEqual(caught.exception.limit, "digits")

    def test_texts_of_any_length(self):
        for number in samples():
            self.assertEqual(full_text(pair(number)), str(number))
        for digits in (59, 60, 61, 120, 121, 1000, 5000):
            nines = "9" * digits
            number = 10 ** digits - 1
            self.assertEqual(full_text((number, 1)), nines)
            self.assertEqual(full_text((-number, 1)), "-" + nines)
            self.assertEqual(full_text((-1, number + 1)), "-1/1" + "0" * digits)
            self.assertEqual(full_text((number + 6, 7)), "1" + "0" * (digits - 1) + "5/7")

    def test_examples(self):
        self.assertEqual((show_fraction((-3, 4)), read_fraction("5/2")), ("-3/4", (5, 2)))
        with self.assertRaises(InvalidNumber):
            read_fraction("4/2")


if __name__ == "__main__":
    unittest.main()
