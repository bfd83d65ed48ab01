"""Tests of consol.due (points 57 to 61)."""

import copy
import random
import unittest
from fractions import Fraction

from consol.accrual import interests, part
from consol.dates import adjust, day_of, is_business, schedule
from consol.due import accrued, falls_due, record_day, start_days
from consol.errors import MissingRate, NoCall
from consol.texts import Bond, read_bond
from helping import error_of

ZERO = (0, 1)


def a_bond(first_day=0, last_day=365, months=6, *, count="fixed", adjust="none", face=365, record=0, calls=()):
    return Bond(
        "x", "state", units=10, face=(face, 1), first_day=first_day, last_day=last_day, months=months, count=count,
        adjust=adjust, record=record, rank=0, lets=[], coupon=("percent", (1, 1)), promises=[], cross=None,
        calls=list(calls),
    )


def one(number):
    return Fraction(number).as_integer_ratio()


class Examples(unittest.TestCase):
    def test_examples(self):
        text = "bond x by state\nunits 10 face 100\nfrom 1 to 366 every 12 months\n"
        text = text + "count thirty adjust none record 3 rank 0\ncoupon 5 percent\n"
        x = read_bond(text + "promise low must fact debt < 9 grace 1\ncall 100 at 102")
        self.assertEqual(falls_due(x, 366, {1: (1, 20)}), [("coupon", (5, 1)), ("principal", (100, 1))])
        self.assertEqual(accrued(x, 32, {1: (1, 20)}), (5, 12))
        self.assertEqual(falls_due(x, 100, {1: (1, 20)}, event="call")[0], ("call", (102, 1)))
        self.assertEqual((record_day(x, 366), record_day(x, 2)), (363, 1))
        self.assertEqual(error_of(falls_due, x, 50, {}, event="call"), (NoCall, {"name": "x", "day": 50}))


class Periods(unittest.TestCase):
    def test_start_days(self):
        self.assertEqual(start_days(a_bond(30, 120, 1)), [30, 58, 89, 119])
        self.assertEqual(start_days(a_bond(30, 120, 60)), [30])
        self.assertEqual(start_days(a_bond(0, 365, 6)), [0, 181])

    def test_start_days_are_a_new_list(self):
        bond = a_bond(0, 365, 6)
        start_days(bond).append(7)
        self.assertEqual(start_days(bond), [0, 181])


class Coupons(unittest.TestCase):
    def test_each_period_is_paid_on_its_pay_day(self):
        bond = a_bond(0, 100, 1)
        rates = {0: (1, 10), 31: (2, 10), 59: (3, 10), 90: (4, 10)}
        paid = {day: falls_due(bond, day, rates) for day in range(120)}
        self.assertEqual({day: due for day, due in paid.items() if due}, {
            31: [("coupon", one(Fraction(31, 10)))],
            59: [("coupon", one(Fraction(56, 10)))],
            90: [("coupon", one(Fraction(93, 10)))],
            100: [("coupon", one(4)), ("principal", (365, 1))],
        })

    def test_face_rate_and_part_of_the_year(self):
        for count in ("fixed", "thirty", "plain"):
            bond = a_bond(3, 200, 2, count=count, face=70)
            start, end = start_days(bond)[1:3]
            wanted = 70 * Fraction(3, 7) * Fraction(*part(count, start, end))
            self.assertEqual(falls_due(bond, end, {start: (3, 7)}), [("coupon", one(wanted))])

    def test_adjusted_pay_days(self):
        # Day 31 is a business day, and the days 117 to 119 have the weekdays 5, 6 and 0.
        self.assertEqual([day % 7 for day in (31, 117, 118, 119)], [3, 5, 6, 0])
        for word, pay_day in (("none", 118), ("next", 119), ("before", 116), ("modified", 119)):
            bond = a_bond(0, 118, 12, adjust=word)
            paid = [day for day in range(130) if falls_due(bond, day, {0: (1, 10)})]
            self.assertEqual(paid, [pay_day], word)
            self.assertEqual(falls_due(bond, pay_day, {0: (1, 10)}), [("coupon", one("11.8")), ("principal", (365, 1))])
        # Day 89 has the weekday 5 and is the last one of its month.
        bond = a_bond(59, 89, 1, adjust="modified")
        self.assertEqual([day for day in range(100) if falls_due(bond, day, {59: (1, 1)})], [88])

    def test_a_pay_day_before_the_start_is_the_start(self):
        bond = a_bond(5, 6, 1, adjust="before")
        self.assertEqual(adjust(6, "before"), 4)
        self.assertEqual(falls_due(bond, 4, {5: (1, 1)}), [])
        self.assertEqual(falls_due(bond, 5, {5: (1, 1)}), [("coupon", (1, 1)), ("principal", (365, 1))])
        self.assertEqual(falls_due(bond, 6, {5: (1, 1)}), [])
        self.assertEqual([accrued(bond, day, {}) for day in range(9)], [ZERO] * 9)

    def test_several_periods_with_one_pay_day(self):
        # The last period goes from a weekday 5 to the weekday 6, so both are paid on the day behind it.
        sixth = [day for day in range(59, 3000) if day % 7 == 5 and day == day_of(day // 365, 3, 1)][0]
        start = day_of(sixth // 365, 2, 1)
        bond = a_bond(start, sixth + 1, 1, adjust="next")
        self.assertEqual(start_days(bond), [start, sixth])
        rates = {start: (1, 2), sixth: (3, 1)}
        self.assertEqual(falls_due(bond, sixth + 2, rates), [("coupon", (17, 1)), ("principal", (365, 1))])
        self.assertEqual(falls_due(bond, sixth, rates) + falls_due(bond, sixth + 1, rates), [])
        self.assertEqual(accrued(bond, sixth + 1, rates), (17, 1))
        self.assertEqual(accrued(bond, sixth, rates), (14, 1))
        self.assertEqual(error_of(falls_due, bond, sixth + 2, {sixth: (3, 1)}),
                         (MissingRate, {"name": "x", "day": start}))
        self.assertEqual(error_of(falls_due, bond, sixth + 2, {start: (3, 1)}),
                         (MissingRate, {"name": "x", "day": sixth}))

    def test_rates_of_zero_and_below(self):
        bond = a_bond(0, 73, 60)
        self.assertEqual(falls_due(bond, 73, {0: ZERO}), [("coupon", ZERO), ("principal", (365, 1))])
        self.assertEqual(falls_due(bond, 73, {0: (-1, 10)}), [("coupon", (-73, 10)), ("principal", (365, 1))])
        self.assertEqual(accrued(bond, 10, {0: (-1, 10)}), (-1, 1))

    def test_a_period_without_a_part_of_the_year(self):
        bond = a_bond(29, 30, 1, count="thirty")
        self.assertEqual(falls_due(bond, 30, {29: (1, 1)}), [("coupon", ZERO), ("principal", (365, 1))])
        self.assertEqual(error_of(falls_due, bond, 30, {}), (MissingRate, {"name": "x", "day": 29}))

    def test_a_face_of_zero(self):
        bond = a_bond(0, 73, 60, face=0)
        self.assertEqual(falls_due(bond, 73, {0: (1, 1)}), [("coupon", ZERO), ("principal", ZERO)])

    def test_nothing_else_falls_due(self):
        bond = a_bond(10, 73, 1, calls=[(40, (400, 1))])
        pay_days = {day for day in range(200) if falls_due(bond, day, {10: ZERO, 41: ZERO, 69: ZERO})}
        self.assertEqual(pay_days, {41, 69, 73})


class Accrued(unittest.TestCase):
    def test_from_day_to_day(self):
        bond = a_bond(10, 74, 1)
        rates = {10: (1, 10), 41: (2, 10), 69: (3, 10)}
        wanted = {0: 0, 9: 0, 10: 0, 11: "0.1", 40: 3, 41: 0, 42: "0.2", 68: "5.4", 69: 0, 70: "0.3", 73: "1.2", 74: 0}
        for day, amount in {**wanted, 75: 0, 500: 0}.items():
            self.assertEqual(accrued(bond, day, rates), one(amount), day)

    def test_between_the_end_and_the_pay_day(self):
        bond = a_bond(0, 118, 12, adjust="next")
        wanted = {116: "11.6", 117: "11.7", 118: "11.8", 119: 0, 120: 0}
        for day, amount in wanted.items():
            self.assertEqual(accrued(bond, day, {0: (1, 10)}), one(amount), day)

    def test_periods_that_run_beside_each_other(self):
        # The first period ends on a weekday 5, and is paid two days behind the start of the second one.
        sixth = [day for day in range(59, 3000) if day % 7 == 5 and day == day_of(day // 365, 3, 1)][0]
        start = day_of(sixth // 365, 2, 1)
        bond = a_bond(start, sixth + 20, 1, adjust="next")
        rates = {start: (1, 4), sixth: (1, 1)}
        self.assertEqual([accrued(bond, sixth + k, rates) for k in range(-1, 4)],
                         [one("6.75"), (7, 1), (8, 1), (2, 1), (3, 1)])
        self.assertEqual(falls_due(bond, sixth + 2, rates), [("coupon", (7, 1))])
        self.assertEqual(error_of(accrued, bond, sixth + 1, {}), (MissingRate, {"name": "x", "day": start}))
        self.assertEqual(error_of(accrued, bond, sixth + 1, {start: ZERO}),
                         (MissingRate, {"name": "x", "day": sixth}))

    def test_paid_before_the_end(self):
        # Day 118 has the weekday 6. What is paid two days earlier does not accrue from then on.
        bond = a_bond(0, 118, 12, adjust="before")
        self.assertEqual([accrued(bond, day, {0: (1, 10)}) for day in (115, 116, 117, 118)],
                         [one("11.5"), ZERO, ZERO, ZERO])

    def test_rates_that_are_needed(self):
        bond = a_bond(10, 74, 1)
        self.assertEqual([accrued(bond, day, {}) for day in (0, 10, 41, 69, 74, 80)], [ZERO] * 6)
        self.assertEqual(error_of(accrued, bond, 11, {41: ZERO}), (MissingRate, {"name": "x", "day": 10}))
        self.assertEqual(accrued(bond, 11, {10: ZERO}), ZERO)
        self.assertEqual(error_of(accrued, bond, 68, {10: ZERO}), (MissingRate, {"name": "x", "day": 41}))


class Calls(unittest.TestCase):
    def test_call(self):
        bond = a_bond(0, 100, 1, calls=[(40, (400, 1)), (50, ZERO)])
        rates = {0: (1, 10), 31: (2, 10), 59: (3, 10)}
        self.assertEqual(falls_due(bond, 40, rates, event="call"), [("call", (400, 1)), ("accrued", one("1.8"))])
        self.assertEqual(falls_due(bond, 50, rates, event="call"), [("call", ZERO), ("accrued", one("3.8"))])
        self.assertEqual(falls_due(bond, 40, rates), [])

    def test_call_on_a_pay_day(self):
        bond = a_bond(0, 100, 1, calls=[(59, (400, 1))])
        self.assertEqual(falls_due(bond, 59, {31: (2, 10), 59: (3, 10)}, event="call"),
                         [("coupon", one("5.6")), ("call", (400, 1)), ("accrued", ZERO)])

    def test_no_call(self):
        bond = a_bond(0, 100, 1, calls=[(40, (400, 1)), (50, ZERO)])
        rates = {0: (1, 10), 31: (2, 10), 59: (3, 10), 90: (1, 1)}
        for day in (0, 39, 41, 49, 51, 59, 100, 101):
            self.assertEqual(error_of(falls_due, bond, day, rates, event="call"), (NoCall, {"name": "x", "day": day}))
        self.assertEqual(error_of(falls_due, a_bond(), 40, {}, event="call"), (NoCall, {"name": "x", "day": 40}))

    def test_call_behind_the_last_pay_day(self):
        # The last day has the weekday 6, so the last pay day is two days earlier.
        bond = a_bond(0, 118, 12, adjust="before", calls=[(115, (5, 1)), (116, (6, 1)), (117, (7, 1))])
        rates = {0: (1, 10)}
        self.assertEqual(falls_due(bond, 115, rates, event="call"), [("call", (5, 1)), ("accrued", one("11.5"))])
        self.assertEqual(falls_due(bond, 116, rates, event="call"),
                         [("coupon", one("11.8")), ("call", (6, 1)), ("accrued", ZERO)])
        self.assertEqual(falls_due(bond, 116, rates), [("coupon", one("11.8")), ("principal", (365, 1))])
        self.assertEqual(error_of(falls_due, bond, 117, rates, event="call"), (NoCall, {"name": "x", "day": 117}))

    def test_missing_rates(self):
        bond = a_bond(0, 100, 1, calls=[(40, (400, 1)), (59, (1, 1))])
        self.assertEqual(error_of(falls_due, bond, 40, {0: ZERO}, event="call"), (MissingRate, {"name": "x", "day": 31}))
        self.assertEqual(error_of(falls_due, bond, 59, {59: ZERO}, event="call"), (MissingRate, {"name": "x", "day": 31}))
        # On a pay day that is no day of a call, the call comes first.
        self.assertEqual(error_of(falls_due, bond, 31, {}, event="call"), (NoCall, {"name": "x", "day": 31}))


class Falling(unittest.TestCase):
    def test_default(self):
        bond = a_bond(0, 100, 1)
        rates = {0: (1, 10), 31: (2, 10), 59: (3, 10), 90: (4, 10)}
        self.assertEqual(falls_due(bond, 0, rates, event="default"), [("default", (365, 1)), ("accrued", ZERO)])
        self.assertEqual(falls_due(bond, 40, rates, event="default"), [("default", (365, 1)), ("accrued", one("1.8"))])

    def test_default_on_a_pay_day(self):
        bond = a_bond(0, 100, 1)
        self.assertEqual(falls_due(bond, 59, {31: (2, 10)}, event="default"),
                         [("coupon", one("5.6")), ("default", (365, 1)), ("accrued", ZERO)])

    def test_default_on_the_day_of_the_principal(self):
        bond = a_bond(0, 100, 1)
        self.assertEqual(falls_due(bond, 100, {90: (4, 10)}, event="default"),
                         [("coupon", (4, 1)), ("default", (365, 1)), ("accrued", ZERO)])

    def test_default_between_the_last_day_and_its_pay_day(self):
        bond = a_bond(0, 118, 12, adjust="next")
        self.assertEqual(falls_due(bond, 118, {0: (1, 10)}, event="default"),
                         [("default", (365, 1)), ("accrued", one("11.8"))])

    def test_default_on_the_day_of_a_call(self):
        bond = a_bond(0, 100, 1, calls=[(40, (400, 1))])
        self.assertEqual(falls_due(bond, 40, {31: ZERO}, event="default"), [("default", (365, 1)), ("accrued", ZERO)])

    def test_nothing_ahead_of_the_first_day_and_behind_the_principal(self):
        bond = a_bond(10, 100, 1)
        for day in (0, 9, 101, 5000):
            self.assertEqual(falls_due(bond, day, {}, event="default"), [])
            self.assertEqual(falls_due(bond, day, {}), [])

    def test_missing_rates(self):
        bond = a_bond(0, 100, 1)
        self.assertEqual(error_of(falls_due, bond, 40, {0: ZERO}, event="default"),
                         (MissingRate, {"name": "x", "day": 31}))
        self.assertEqual(error_of(falls_due, bond, 31, {31: ZERO}, event="default"),
                         (MissingRate, {"name": "x", "day": 0}))


class RecordDays(unittest.TestCase):
    def test_record_days(self):
        bond = a_bond(10, 100, 1, record=4)
        self.assertEqual([record_day(bond, day) for day in (10, 11, 14, 15, 100, 120)], [10, 10, 10, 11, 96, 116])
        self.assertEqual([record_day(a_bond(10, 100, 1), day) for day in (10, 11, 100)], [10, 11, 100])
        self.assertEqual(record_day(a_bond(10, 100, 1, record=60), 69), 10)
        self.assertEqual(record_day(a_bond(10, 100, 1, record=60), 71), 11)

    def test_before_the_first_day(self):
        self.assertEqual([record_day(a_bond(10, 100, 1, record=3), day) for day in (0, 9)], [10, 10])


class Facts(unittest.TestCase):
    def some_bond(self, chance):
        first_day = chance.randint(0, 80)
        last_day = first_day + chance.choice([1, 2, 3, chance.randint(4, 200)])
        calls = [(day, (chance.randint(0, 500), 1)) for day in range(first_day + 1, last_day) if chance.random() < 0.1]
        return a_bond(
            first_day, last_day, chance.choice([1, 1, 2, 5]), count=chance.choice(["fixed", "thirty", "plain"]),
            adjust=chance.choice(["none", "next", "before", "modified"]), face=chance.choice([0, 7, 100]), calls=calls,
        )

    def pay_days(self, bond):
        days = schedule(bond.first_day, bond.last_day, bond.months)
        return [max(start, adjust(end, bond.adjust)) for start, end in zip(days, days[1:])], days

    def test_nothing_is_lost_and_nothing_is_paid_twice(self):
        chance = random.Random(60)
        tried = {"call": 0, "default": 0}
        for _ in range(300):
            bond = self.some_bond(chance)
            pay_days, days = self.pay_days(bond)
            rates = {day: one(Fraction(chance.randint(-3, 9), 20)) for day in days}
            day = chance.randint(bond.first_day, pay_days[-1])
            event = "default"
            callable_days = [day for day, _ in bond.calls if day <= pay_days[-1]]
            if callable_days and chance.random() < 0.7:
                event = "call"
                day = chance.choice(callable_days)
            tried[event] += 1
            paid = Fraction(0)
            for earlier in range(day):
                paid += sum(Fraction(*amount) for word, amount in falls_due(bond, earlier, rates) if word == "coupon")
            due = falls_due(bond, day, rates, event=event)
            self.assertEqual([word for word, _ in due if word != "coupon"], [event, "accrued"])
            paid += sum(Fraction(*amount) for word, amount in due if word != event)
            wanted = Fraction(0)
            for start, end, pay_day in zip(days, days[1:], pay_days):
                if start < day or pay_day <= day:
                    until = end if pay_day <= day else min(end, day)
                    wanted += Fraction(*bond.face) * Fraction(*rates[start]) * Fraction(*part(bond.count, start, until))
            self.assertEqual(paid, wanted)
        self.assertGreater(min(tried.values()), 50)

    def test_all_coupons_and_one_principal(self):
        chance = random.Random(57)
        for _ in range(200):
            bond = self.some_bond(chance)
            pay_days, days = self.pay_days(bond)
            rates = {day: (1, 20) for day in days}
            found = [(day, falls_due(bond, day, rates)) for day in range(pay_days[-1] + 5)]
            self.assertEqual([day for day, due in found if due], sorted(set(pay_days)))
            self.assertEqual([day for day, due in found if dict(due).get("principal") == bond.face], pay_days[-1:])
            paid = sum(Fraction(*dict(due).get("coupon", ZERO)) for _, due in found)
            self.assertEqual(paid, sum(Fraction(*x) for x in interests(bond.face, (1, 20), bond.count, days)))
            for day in pay_days:
                self.assertTrue(is_business(day) or bond.adjust == "none" or day in days)

    def test_arguments_stay(self):
        bond = a_bond(0, 100, 1, calls=[(40, (400, 1))])
        rates = {0: ZERO, 31: ZERO}
        before = copy.deepcopy((vars(bond), rates))
        falls_due(bond, 40, rates, event="call").append("more")
        accrued(bond, 40, rates)
        self.assertEqual((vars(bond), rates), before)
        self.assertEqual(len(falls_due(bond, 40, rates, event="call")), 2)


if __name__ == "__main__":
    unittest.main()
