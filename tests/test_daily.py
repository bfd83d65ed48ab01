"""Tests of consol.daily (points 74, 75 and 77)."""

import copy
import unittest

from consol.claims import Claims, is_clearing
from consol.daily import Record, copied, is_right
from consol.steps import accepts_steps
from helping import issue, office_of

ONE = (1, 1)
ZERO = (0, 1)


def short_record():
    """Day 146: state owes ann 4 and town 8, and has 6; town owes bob 20, and has 5 besides."""
    office = office_of(
        *issue("x", "state", units=10, face=100, days="0 to 146", coupon="5 percent", calls=()),
        *issue("y", "town", units=10, face=50, days="0 to 146", coupon="10 percent", rank=2),
        "open x ann", "open x town", "move x state ann 2", "move x state town 4", "open y bob", "move y town bob 10",
        "give state 306", "give town 5", "days 147",
    )
    return office.records()[0]


class Records(unittest.TestCase):
    def test_what_a_record_has(self):
        record = short_record()
        self.assertEqual((record.day, record.issuers, record.cash), (146, ["state", "town"], [(306, 1), (5, 1)]))
        self.assertEqual(record.owners, [("x", "ann"), ("x", "town"), ("y", "bob")])
        self.assertEqual(record.debts, [(0, 0, None, (204, 1)), (0, 0, 1, (408, 1)), (1, 2, None, (520, 1))])
        self.assertEqual((record.totals, record.paid), ([(306, 1), (209, 1)], [(102, 1), (204, 1), (209, 1)]))
        claims = Claims(record.cash, record.debts)
        self.assertTrue(is_clearing(claims, record.totals))
        self.assertTrue(accepts_steps(claims, record.totals, record.steps))
        self.assertGreater(len(record.steps), 0)

    def test_a_record_is_made_of_copies(self):
        parts = [3, ["a"], [ONE], [("x", "ann")], [(0, 0, None, ONE)], [ONE], [([0], [ONE])], [ONE]]
        record = Record(*parts)
        kept = copy.deepcopy(vars(record))
        for part in parts[1:]:
            part.append(None)
        self.assertEqual(vars(record), kept)
        other = copied(record)
        self.assertEqual(vars(other), kept)
        other.steps[0][0].append(1)
        other.paid.append(ONE)
        self.assertEqual(vars(record), kept)


class Right(unittest.TestCase):
    def test_a_right_record(self):
        self.assertTrue(is_right(short_record()))

    def test_without_steps(self):
        record = Record(3, ["a"], [(5, 1)], [("x", "ann")], [(0, 0, None, (4, 1))], [(4, 1)], [], [(4, 1)])
        self.assertTrue(is_right(record))
        record.cash = [(3, 1)]
        self.assertFalse(is_right(record))

    def test_other_steps_may_be_right(self):
        record = short_record()
        record.steps = record.steps + [([], list(record.totals))]
        self.assertTrue(is_right(record))

    def test_wrong_records(self):
        for attribute, wrong in (
            ("steps", []),
            ("steps", [([0, 1], [(306, 1), (210, 1)])]),
            ("steps", [([0, 1], [(306, 1)])]),
            ("totals", [(306, 1), (208, 1)]),
            ("totals", [(612, 1), (413, 1)]),
            ("totals", [(306, 1)]),
            ("totals", []),
            ("paid", [(102, 1), (204, 1), (208, 1)]),
            ("paid", [(103, 1), (203, 1), (209, 1)]),
            ("paid", [(102, 1), (204, 1)]),
            ("paid", []),
            ("cash", [(307, 1), (5, 1)]),
            ("cash", [(306, 1), (4, 1)]),
            ("cash", [(306, 1)]),
            ("cash", [(-1, 1), (5, 1)]),
            ("debts", [(0, 0, None, (204, 1)), (0, 0, 1, (408, 1))]),
            ("debts", [(0, 0, None, (204, 1)), (0, 0, 1, (407, 1)), (1, 2, None, (520, 1))]),
            ("debts", [(0, 1, None, (204, 1)), (0, 0, 1, (408, 1)), (1, 2, None, (520, 1))]),
        ):
            record = short_record()
            setattr(record, attribute, wrong)
            self.assertFalse(is_right(record), (attribute, wrong))

    def test_a_clearing_that_is_not_the_greatest(self):
        # Two issuers owe each other 1 and have nothing: both pay in full, though paying nothing is a clearing, too.
        debts = [(0, 0, 1, ONE), (1, 0, 0, ONE)]
        owners = [("x", "b"), ("y", "a")]
        right = Record(1, ["a", "b"], [ZERO, ZERO], owners, debts, [ONE, ONE], [], [ONE, ONE])
        self.assertTrue(is_right(right))
        for steps in ([], [([0, 1], [ZERO, ZERO])], [([0], [ZERO, ONE]), ([1], [ZERO, ZERO])]):
            self.assertFalse(is_right(Record(1, ["a", "b"], [ZERO, ZERO], owners, debts, [ZERO, ZERO], steps,
                                             [ZERO, ZERO])))

    def test_checking_changes_nothing(self):
        record = short_record()
        before = copy.deepcopy(vars(record))
        is_right(record)
        self.assertEqual(vars(record), before)


if __name__ == "__main__":
    unittest.main()
