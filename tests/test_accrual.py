"""Tests of consol.accrual (points 16 to 19)."""

import unittest
from fractions import Fraction

from consol.accrual import interest, interests, part, share
from consol.dates import add_months, date_of, day_of, schedule
from consol.errors import InvalidDay, InvalidWord

LENGTHS = [31, 28, 31, 30, 31, 30, 31, 31, 30, 31, 30, 31]
COUNTS = ("fixed", "thirty", "plain")
FAR = 365 * 10 ** 25
# Every end of a month of a year and more, with the days around it.
ENDS = sorted({day_of(year, month, LENGTHS[month - 1]) + k for year in (0, 1) for month in range(1, 13)
               for k in (-2, -1, 0, 1, 2)})


def pair(value):
    value = Fraction(value)
    return (value.numerator, value.denominator)


def number_of(count, day):
    year, month, number = date_of(day)
    if count == "fixed":
        return Fraction(day, 365)
    if count == "thirty":
        return Fraction(360 * year + 30 * month + (30 if number == 31 else number), 360)
    return Fraction(12 * year + month + Fraction(number - 1, LENGTHS[month - 1]), 12)


class PartTest(unittest.TestCase):
    def test_examples(self):
        told = (part("fixed", 0, 73), part("thirty", 0, 59), part("plain", 0, 45))
        self.assertEqual(told, ((1, 5), (1, 6), (1, 8)))
        self.assertEqual(part("thirty", 29, 30), (0, 1))

    def test_over_the_ends_of_months(self):
        for count in COUNTS:
            for start in ENDS:
                for end in ENDS:
                    if start <= end:
                        told = pair(number_of(count, end) - number_of(count, start))
                        self.assertEqual(part(count, start, end), told, (count, start, end))

    def test_single_parts(self):
        last_of_january, last_of_february, first_of_march = 30, 58, 59
        self.assertEqual(part("thirty", last_of_january, last_of_february), (7, 90))
        self.assertEqual(part("thirty", last_of_february, first_of_march), (1, 120))
        self.assertEqual(part("fixed", last_of_february, first_of_march), (1, 365))
        self.assertEqual(part("plain", last_of_february, first_of_march), (1, 336))
        self.assertEqual(part("plain", 0, 15), (5, 124))
        self.assertEqual(part("thirty", 0, 365), (1, 1))
        self.assertEqual(part("fixed", 0, 365), (1, 1))
        self.assertEqual(part("plain", 0, 365), (1, 1))

    def test_no_days(self):
        for count in COUNTS:
            for day in [*ENDS, 0, FAR]:
                self.assertEqual(part(count, day, day), (0, 1))

    def test_far_days(self):
        for count in COUNTS:
            for start, end in [(0, 45), (30, 59), (58, 364)]:
                self.assertEqual(part(count, FAR + start, FAR + end), part(count, start, end))
            self.assertEqual(part(count, 0, FAR), (10 ** 25, 1))

    def test_parts_add_up(self):
        for count in COUNTS:
            for a, b, c in [(0, 30, 31), (29, 30, 31), (58, 59, 60), (5, 300, 800), (7, 7, 9)]:
                first, second = Fraction(*part(count, a, b)), Fraction(*part(count, b, c))
                self.assertEqual(pair(first + second), part(count, a, c))

    def test_whole_months_with_plain(self):
        for months in range(1, 14):
            for month in range(1, 13):
                later = (month - 1 + months) % 12 + 1
                for number in range(1, LENGTHS[month - 1] + 1):
                    start = day_of(1, month, number)
                    end = add_months(start, months)
                    if number == 1 or LENGTHS[month - 1] == LENGTHS[later - 1]:
                        self.assertEqual(part("plain", start, end), pair(Fraction(months, 12)))

    def test_wrong_words(self):
        for count in ("", "Fixed", "thirtyy", "none", "days", "fixed "):
            for start, end in [(0, 5), (-1, 5), (5, 0), (5, 5)]:
                for call in (lambda: part(count, start, end), lambda: share(count, start, end, start),
                             lambda: share(count, start, end, -9), lambda: interest((1, 1), (1, 1), count, start, end)):
                    with self.assertRaises(InvalidWord) as caught:
                        call()
                    self.assertEqual(caught.exception.word, count)

    def test_wrong_days(self):
        for count in COUNTS:
            for start, end in [(-1, 5), (-5, -1), (-1, -1), (1, 0), (100, 99), (FAR, 0)]:
                for call in (lambda: part(count, start, end), lambda: share(count, start, end, end),
                             lambda: interest((1, 1), (1, 1), count, start, end)):
                    with self.subTest((count, start, end)), self.assertRaises(InvalidDay):
                        call()


class ShareTest(unittest.TestCase):
    def test_example(self):
        self.assertEqual(share("thirty", 0, 59, 29), (29, 60))

    def test_as_told(self):
        for count in COUNTS:
            for start, end in [(0, 59), (30, 58), (20, 400), (58, 60), (29, 31)]:
                whole = number_of(count, end) - number_of(count, start)
                shares = [share(count, start, end, day) for day in range(start, end + 1)]
                told = [(number_of(count, day) - number_of(count, start)) / whole for day in range(start, end + 1)]
                self.assertEqual(shares, [pair(value) for value in told])
                self.assertEqual((shares[0], shares[-1]), ((0, 1), (1, 1)))
                self.assertEqual(told, sorted(told))

    def test_days_outside(self):
        for count in COUNTS:
            for day in (9, 41, 0, -1, 1000):
                with self.assertRaises(InvalidDay):
                    share(count, 10, 40, day)

    def test_periods_without_a_part(self):
        for day in (29, 30):
            with self.assertRaises(InvalidDay):
                share("thirty", 29, 30, day)
        self.assertEqual(share("fixed", 29, 30, 29), (0, 1))
        self.assertEqual(share("plain", 29, 30, 30), (1, 1))
        for count in COUNTS:
            with self.assertRaises(InvalidDay):
                share(count, 7, 7, 7)


class InterestTest(unittest.TestCase):
    def test_example(self):
        self.assertEqual(interest((1000, 1), (1, 20), "fixed", 0, 73), (10, 1))

    def test_as_told(self):
        for count in COUNTS:
            for principal in [(0, 1), (100, 1), (7, 3), (-5, 2)]:
                for rate in [(0, 1), (1, 20), (-1, 7), (3, 1)]:
                    told = Fraction(*principal) * Fraction(*rate) * Fraction(*part(count, 20, 77))
                    self.assertEqual(interest(principal, rate, count, 20, 77), pair(told))
            self.assertEqual(interest((100, 1), (1, 20), count, 30, 30), (0, 1))

    def test_interests(self):
        for count in COUNTS:
            days = schedule(30, 900, 5)
            found = interests((1000, 3), (1, 17), count, days)
            told = [interest((1000, 3), (1, 17), count, start, end) for start, end in zip(days, days[1:])]
            self.assertEqual(found, told)
            whole = interest((1000, 3), (1, 17), count, 30, 900)
            self.assertEqual(pair(sum(Fraction(*value) for value in found)), whole)

    def test_few_days(self):
        self.assertEqual(interests((1, 1), (1, 1), "fixed", []), [])
        self.assertEqual(interests((1, 1), (1, 1), "fixed", [5]), [])
        self.assertEqual(interests((1, 1), (1, 1), "fixed", [5, 5]), [(0, 1)])
        self.assertEqual(interests((365, 1), (2, 1), "fixed", [5, 6, 8]), [(2, 1), (4, 1)])

    def test_days_stay(self):
        days = [5, 6, 8]
        interests((365, 1), (2, 1), "fixed", days)
        self.assertEqual(days, [5, 6, 8])

    def test_errors(self):
        with self.assertRaises(InvalidWord) as caught:
            interests((1, 1), (1, 1), "never", [0, 5])
        self.assertEqual(caught.exception.word, "never")
        with self.assertRaises(InvalidWord):
            interests((1, 1), (1, 1), "never", [-5, 5])
        for days in ([-1, 5], [0, 5, 4], [5, 4], [-2, -1, 4]):
            with self.assertRaises(InvalidDay):
                interests((1, 1), (1, 1), "plain", days)


if __name__ == "__main__":
    unittest.main()
