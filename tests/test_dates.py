"""Tests of consol.dates (points 11 to 15)."""

import unittest

from consol.dates import (
    add_months, adjust, date_of, day_of, is_business, month_length, periods, schedule, weekday,
)
from consol.errors import InvalidDay, InvalidWord

LENGTHS = [31, 28, 31, 30, 31, 30, 31, 31, 30, 31, 30, 31]
DATES = [(year, month + 1, number + 1) for year in range(4) for month in range(12) for number in range(LENGTHS[month])]
DAYS = range(len(DATES))
WORDS = ("none", "next", "before", "modified")
FAR = 365 * 10 ** 30


class DatesTest(unittest.TestCase):
    def test_every_day_and_date_of_four_years(self):
        self.assertEqual(len(DATES), 4 * 365)
        for day in DAYS:
            self.assertEqual(date_of(day), DATES[day])
            self.assertEqual(day_of(*DATES[day]), day)

    def test_far_days(self):
        for day in DAYS:
            year, month, number = DATES[day]
            self.assertEqual(date_of(FAR + day), (10 ** 30 + year, month, number))
            self.assertEqual(day_of(10 ** 30 + year, month, number), FAR + day)

    def test_examples(self):
        self.assertEqual((date_of(0), date_of(58), day_of(1, 3, 1)), ((0, 1, 1), (0, 2, 28), 424))

    def test_no_such_date(self):
        wrong = [
            (0, 2, 29), (4, 2, 29), (0, 4, 31), (0, 1, 32), (0, 12, 32), (0, 1, 0), (0, 1, -1), (0, 0, 1), (0, 13, 1),
            (0, -1, 1), (-1, 1, 1), (-1, 12, 31), (0, 14, 40), (-5, 0, 0), (400, 2, 29),
        ]
        for year, month, number in wrong:
            with self.subTest((year, month, number)), self.assertRaises(InvalidDay):
                day_of(year, month, number)
        for month, length in enumerate(LENGTHS):
            with self.assertRaises(InvalidDay):
                day_of(3, month + 1, length + 1)

    def test_days_below_zero(self):
        for day in (-1, -365, -FAR):
            for call in (date_of, weekday, is_business):
                with self.assertRaises(InvalidDay):
                    call(day)

    def test_month_length(self):
        self.assertEqual([month_length(month) for month in range(1, 13)], LENGTHS)
        for month in (0, 13, -1, -12, 100):
            with self.assertRaises(InvalidDay):
                month_length(month)


class BusinessDaysTest(unittest.TestCase):
    def test_weekdays(self):
        for day in range(30):
            self.assertEqual(weekday(day), day % 7)
            self.assertIs(is_business(day), day % 7 in (0, 1, 2, 3, 4))
        self.assertEqual(weekday(7 * FAR + 6), 6)

    def test_adjusted_as_told(self):
        for day in DAYS:
            following = next(later for later in range(day, day + 9) if later % 7 <= 4)
            earlier = next(ahead for ahead in range(day, -1, -1) if ahead % 7 <= 4)
            in_month = date_of(following)[:2] == date_of(day)[:2]
            self.assertEqual(adjust(day, "none"), day)
            self.assertEqual(adjust(day, "next"), following)
            self.assertEqual(adjust(day, "before"), earlier)
            self.assertEqual(adjust(day, "modified"), following if in_month else earlier)

    def test_examples(self):
        self.assertEqual((adjust(5, "next"), adjust(5, "before"), adjust(89, "modified")), (7, 4, 88))

    def test_both_sides_of_the_end_of_a_month(self):
        # Day 180 is the last of month 6, and with day 181 the end of a week.
        self.assertEqual((date_of(180), weekday(180), weekday(181)), ((0, 6, 30), 5, 6))
        self.assertEqual((adjust(180, "modified"), adjust(181, "modified")), (179, 182))

    def test_the_end_of_a_year(self):
        ends = [day for day in range(364, 365 * 15, 365) if day % 7 > 4]
        self.assertTrue(ends)
        for day in ends:
            self.assertEqual(adjust(day, "modified"), adjust(day, "before"))
            self.assertEqual(adjust(day, "next"), day + 7 - day % 7)

    def test_facts(self):
        for word in WORDS:
            adjusted = [adjust(day, word) for day in DAYS]
            self.assertEqual(adjusted, sorted(adjusted))
            self.assertEqual([adjust(day, word) for day in adjusted], adjusted)

    def test_far_days(self):
        day = 7 * FAR + 5
        self.assertEqual((adjust(day, "next"), adjust(day, "before"), adjust(day, "none")), (day + 2, day - 1, day))

    def test_wrong_words_and_days(self):
        for word in ("", "None", "after", "nextt", "NEXT", "modify", "fixed", " next"):
            with self.assertRaises(InvalidWord) as caught:
                adjust(3, word)
            self.assertEqual(caught.exception.word, word)
            with self.assertRaises(InvalidWord):
                adjust(-3, word)
        for word in WORDS:
            with self.assertRaises(InvalidDay):
                adjust(-1, word)


class AddMonthsTest(unittest.TestCase):
    def test_as_told(self):
        for day in DAYS:
            year, month, number = DATES[day]
            for count in (0, 1, 2, 3, 6, 11, 12, 13, 24, 25):
                later_year, later_month = year, month
                for _ in range(count):
                    later_month = later_month + 1
                    if later_month == 13:
                        later_year, later_month = later_year + 1, 1
                later_number = min(number, LENGTHS[later_month - 1])
                self.assertEqual(add_months(day, count), day_of(later_year, later_month, later_number))

    def test_ends_of_months(self):
        self.assertEqual((add_months(30, 1), add_months(30, 2)), (58, 89))
        self.assertEqual(add_months(day_of(0, 1, 29), 1), day_of(0, 2, 28))
        self.assertEqual(add_months(day_of(0, 2, 28), 1), day_of(0, 3, 28))
        self.assertEqual(add_months(day_of(0, 8, 31), 1), day_of(0, 9, 30))
        self.assertEqual(add_months(day_of(0, 12, 31), 2), day_of(1, 2, 28))
        self.assertEqual(add_months(day_of(0, 12, 31), 0), day_of(0, 12, 31))

    def test_far_days_and_months(self):
        self.assertEqual(add_months(FAR, 12 * 10 ** 20), FAR + 365 * 10 ** 20)
        self.assertEqual(add_months(30, 12 * 10 ** 20 + 1), 58 + 365 * 10 ** 20)

    def test_no_later_day_leads_to_an_earlier_one(self):
        for count in range(14):
            reached = [add_months(day, count) for day in DAYS]
            self.assertEqual(reached, sorted(reached))

    def test_below_zero(self):
        for day, count in [(-1, 0), (0, -1), (-1, -1), (100, -12), (-100, 12), (400, -1), (FAR, -5)]:
            with self.assertRaises(InvalidDay):
                add_months(day, count)


class ScheduleTest(unittest.TestCase):
    def test_examples(self):
        self.assertEqual(schedule(30, 120, 1), [30, 58, 89, 119, 120])
        self.assertEqual(periods(0, 40, 1, "next"), [(0, 31, 31), (31, 40, 42)])

    def test_as_told(self):
        for start in (0, 5, 27, 28, 29, 30, 58, 89, 364, 400):
            for end in (start + 1, start + 27, start + 31, start + 59, start + 365, start + 800):
                for months in (1, 2, 3, 5, 6, 12, 13, 60):
                    inner = [add_months(start, months * k) for k in range(1, 40)]
                    told = [start] + [day for day in inner if day < end] + [end]
                    self.assertEqual(schedule(start, end, months), told)

    def test_the_end_is_a_day_of_the_months(self):
        self.assertEqual(schedule(0, 59, 1), [0, 31, 59])
        self.assertEqual(schedule(0, 31, 1), [0, 31])
        self.assertEqual(schedule(0, 365, 12), [0, 365])

    def test_shorter_last_periods(self):
        self.assertEqual(schedule(0, 60, 1), [0, 31, 59, 60])
        self.assertEqual(schedule(0, 30, 1), [0, 30])
        self.assertEqual(schedule(0, 1, 60), [0, 1])
        self.assertEqual(schedule(3, 4, 1), [3, 4])

    def test_counted_from_the_start(self):
        ends = [day_of(0, month, LENGTHS[month - 1]) for month in range(1, 13)]
        self.assertEqual(schedule(30, 364, 1), ends)

    def test_far_days(self):
        self.assertEqual(schedule(FAR, FAR + 40, 1), [FAR, FAR + 31, FAR + 40])

    def test_new_lists(self):
        schedule(0, 40, 1).clear()
        self.assertEqual(schedule(0, 40, 1), [0, 31, 40])

    def test_periods_cover_the_days(self):
        for word in WORDS:
            for start, end, months in [(0, 700, 1), (30, 400, 2), (100, 1200, 6), (7, 8, 1)]:
                found = periods(start, end, months, word)
                days = schedule(start, end, months)
                self.assertEqual([(first, last) for first, last, _ in found], list(zip(days, days[1:])))
                self.assertEqual([pay for _, _, pay in found], [adjust(day, word) for day in days[1:]])
                self.assertEqual([pay for _, _, pay in found], sorted(pay for _, _, pay in found))

    def test_a_pay_day_may_come_before_its_period(self):
        self.assertEqual(periods(5, 6, 1, "before"), [(5, 6, 4)])

    def test_wrong_days(self):
        for start, end, months in [(-1, 5, 1), (5, 5, 1), (6, 5, 1), (0, 0, 1), (0, 5, 0), (0, 5, -1), (-9, -3, 1)]:
            with self.subTest((start, end, months)):
                with self.assertRaises(InvalidDay):
                    schedule(start, end, months)
                for word in WORDS:
                    with self.assertRaises(InvalidDay):
                        periods(start, end, months, word)

    def test_wrong_words_come_first(self):
        for start, end, months in [(0, 40, 1), (-1, 5, 1), (5, 5, 1), (0, 5, 0)]:
            with self.assertRaises(InvalidWord) as caught:
                periods(start, end, months, "later")
            self.assertEqual(caught.exception.word, "later")


if __name__ == "__main__":
    unittest.main()
