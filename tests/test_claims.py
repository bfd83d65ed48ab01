"""Tests of consol.claims (points 40 to 43)."""

import random
import unittest
from fractions import Fraction

from consol.claims import Claims, has, is_clearing, limit_of, paid, size_of
from consol.errors import InvalidClaims

ZERO = (0, 1)
ONE = (1, 1)


def money(p, q=1):
    return Fraction(p, q).as_integer_ratio()


def some_claims(chance, most_debts=20):
    issuers = chance.randint(1, 8)
    cash = [money(chance.choice([0, 0, 1, 2, 5, 9]), chance.choice([1, 1, 2, 3])) for _ in range(issuers)]
    debts = []
    for _ in range(chance.randint(0, most_debts)):
        debtor = chance.randrange(issuers)
        creditor = chance.choice([None] + [other for other in range(issuers) if other != debtor])
        amount = money(chance.choice([0, 1, 1, 2, 3, 8]), chance.choice([1, 1, 2, 5]))
        debts.append((debtor, chance.choice([0, 0, 1, 1, 3, 5]), creditor, amount))
    return Claims(cash, debts)


def told_payments(claims, totals):
    """What each debt is paid by the document's words."""
    result = []
    for debtor, rank, _, amount in claims.debts:
        before = sum(Fraction(*debt[3]) for debt in claims.debts if debt[0] == debtor and debt[1] < rank)
        size = sum(Fraction(*debt[3]) for debt in claims.debts if debt[0] == debtor and debt[1] == rank)
        left = max(Fraction(0), min(size, Fraction(*totals[debtor]) - before))
        result.append((Fraction(*amount) * left / size).as_integer_ratio() if size else ZERO)
    return result


class Limits(unittest.TestCase):
    def refuse(self, cash, debts):
        with self.assertRaises(InvalidClaims) as caught:
            Claims(cash, debts)
        self.assertIsInstance(caught.exception.reason, str)

    def test_issuers(self):
        for issuers in range(1, 9):
            self.assertEqual(len(Claims([ONE] * issuers, []).cash), issuers)
        self.refuse([], [])
        self.refuse([ONE] * 9, [])
        self.refuse([ONE] * 9, [(0, 0, 1, ONE)])

    def test_debts(self):
        debt = (0, 0, 1, ONE)
        self.assertEqual(len(Claims([ONE, ONE], [debt] * 60).debts), 60)
        self.refuse([ONE, ONE], [debt] * 61)

    def test_cash(self):
        Claims([ZERO, (1, 3)], [])
        self.refuse([(-1, 1)], [])
        self.refuse([ONE, (-1, 1000), ONE], [])

    def test_debtors(self):
        Claims([ONE, ONE], [(1, 0, None, ONE)])
        for debtor in (-1, 2, 3, 8):
            self.refuse([ONE, ONE], [(debtor, 0, None, ONE)])
            self.refuse([ONE, ONE], [(0, 0, 1, ONE), (debtor, 0, 1 if debtor != 1 else 0, ONE)])

    def test_creditors(self):
        Claims([ONE, ONE], [(1, 0, 0, ONE), (0, 0, 1, ONE), (0, 0, None, ONE)])
        for creditor in (-1, 2, 8):
            self.refuse([ONE, ONE], [(0, 0, creditor, ONE)])

    def test_a_debt_to_oneself(self):
        self.refuse([ONE, ONE], [(0, 0, 0, ONE)])
        self.refuse([ONE, ONE], [(0, 0, 1, ONE), (1, 3, 1, ONE)])
        self.refuse([ONE], [(0, 0, 0, ZERO)])

    def test_ranks(self):
        for rank in range(6):
            Claims([ONE], [(0, rank, None, ONE)])
        self.refuse([ONE], [(0, -1, None, ONE)])
        self.refuse([ONE], [(0, 6, None, ONE)])

    def test_amounts(self):
        Claims([ONE], [(0, 0, None, ZERO)])
        self.refuse([ONE], [(0, 0, None, (-1, 1))])
        self.refuse([ONE, ONE], [(0, 0, None, ONE), (1, 0, 0, (-1, 9))])

    def test_copies(self):
        cash = [ONE, ZERO]
        debts = [(0, 0, 1, ONE)]
        claims = Claims(cash, debts)
        cash.append(ONE)
        debts.pop()
        self.assertEqual((claims.cash, claims.debts), ([ONE, ZERO], [(0, 0, 1, ONE)]))
        self.assertEqual((type(claims.cash), type(claims.debts)), (list, list))


class Payments(unittest.TestCase):
    def test_examples(self):
        claims = Claims([(3, 1), (0, 1)], [(0, 0, 1, (6, 1)), (1, 0, None, (2, 1)), (1, 1, 0, (4, 1))])
        self.assertEqual(paid(claims, [(4, 1), (3, 1)]), [(4, 1), (2, 1), (1, 1)])
        self.assertEqual(has(claims, [(4, 1), (3, 1)], 0), (4, 1))
        self.assertIs(is_clearing(claims, [(4, 1), (3, 1)]), False)
        self.assertIs(is_clearing(claims, [(6, 1), (6, 1)]), True)

    def test_sizes_and_limits(self):
        claims = Claims([ZERO, ZERO], [
            (0, 1, None, (1, 2)), (1, 0, 0, (9, 1)), (0, 1, 1, (1, 3)), (0, 4, 1, (2, 1)), (0, 4, None, ZERO),
            (0, 1, 1, (1, 3)),
        ])
        self.assertEqual([size_of(claims, 0, rank) for rank in range(6)],
                         [ZERO, (7, 6), ZERO, ZERO, (2, 1), ZERO])
        self.assertEqual([size_of(claims, 1, rank) for rank in range(6)], [(9, 1)] + [ZERO] * 5)
        self.assertEqual((limit_of(claims, 0), limit_of(claims, 1)), ((19, 6), (9, 1)))
        self.assertEqual(limit_of(Claims([ONE], []), 0), ZERO)

    def test_ranks(self):
        claims = Claims([ZERO, ZERO], [
            (0, 3, None, (6, 1)), (0, 0, 1, (2, 1)), (0, 1, None, (3, 1)), (0, 1, 1, (1, 1)), (0, 3, 1, (2, 1)),
        ])
        for amount, payments in (
            (ZERO, (0, 0, 0, 0, 0)), (ONE, (0, 1, 0, 0, 0)), ((2, 1), (0, 2, 0, 0, 0)),
            ((3, 1), (0, 2, (3, 4), (1, 4), 0)), ((6, 1), (0, 2, 3, 1, 0)), ((8, 1), ((3, 2), 2, 3, 1, (1, 2))),
            ((14, 1), (6, 2, 3, 1, 2)),
        ):
            expected = [money(item) if isinstance(item, int) else money(*item) for item in payments]
            self.assertEqual(paid(claims, [amount, ZERO]), expected)

    def test_a_rank_of_size_0(self):
        claims = Claims([ONE, ZERO], [(0, 0, 1, ZERO), (0, 1, None, (2, 1)), (0, 2, 1, ZERO), (0, 2, None, ZERO)])
        self.assertEqual(paid(claims, [ONE, ZERO]), [ZERO, ONE, ZERO, ZERO])
        self.assertEqual(paid(claims, [(2, 1), ZERO]), [ZERO, (2, 1), ZERO, ZERO])

    def test_several_debts_between_the_same_two(self):
        claims = Claims([ONE, ZERO], [(0, 2, 1, (1, 1)), (0, 2, 1, (3, 1)), (0, 2, 1, ZERO), (0, 2, None, (4, 1))])
        self.assertEqual(paid(claims, [(2, 1), ZERO]), [(1, 4), (3, 4), ZERO, (1, 1)])
        self.assertEqual(has(claims, [(2, 1), ZERO], 1), ONE)

    def test_has(self):
        debts = [(0, 0, 1, (4, 1)), (0, 0, 2, (4, 1)), (2, 1, 1, (3, 1)), (1, 0, None, ONE)]
        claims = Claims([ONE, (1, 2), ZERO], debts)
        totals = [(2, 1), ONE, (3, 2)]
        self.assertEqual([has(claims, totals, issuer) for issuer in range(3)], [ONE, (3, 1), ONE])

    def test_no_debts(self):
        claims = Claims([ONE, ZERO], [])
        self.assertEqual((paid(claims, [ZERO, ZERO]), has(claims, [ZERO, ZERO], 0)), ([], ONE))
        self.assertIs(is_clearing(claims, [ZERO, ZERO]), True)

    def test_many(self):
        chance = random.Random(41)
        for _ in range(400):
            claims = some_claims(chance)
            totals = []
            for issuer in range(len(claims.cash)):
                limit = Fraction(*limit_of(claims, issuer))
                totals.append((limit * chance.choice([0, 1, Fraction(chance.randint(0, 12), 12)])).as_integer_ratio())
            payments = told_payments(claims, totals)
            self.assertEqual(paid(claims, totals), payments)
            for issuer, amount in enumerate(claims.cash):
                received = [Fraction(*item) for item, debt in zip(payments, claims.debts) if debt[2] == issuer]
                self.assertEqual(has(claims, totals, issuer), (Fraction(*amount) + sum(received)).as_integer_ratio())
                sent = [Fraction(*item) for item, debt in zip(payments, claims.debts) if debt[0] == issuer]
                self.assertEqual(Fraction(sum(sent)).as_integer_ratio(), totals[issuer])

    def test_arguments_stay(self):
        claims = Claims([ONE, ZERO], [(0, 0, 1, (2, 1))])
        totals = [ONE, ZERO]
        paid(claims, totals).append(ONE)
        has(claims, totals, 1)
        is_clearing(claims, totals)
        self.assertEqual((claims.cash, claims.debts, totals), ([ONE, ZERO], [(0, 0, 1, (2, 1))], [ONE, ZERO]))


class Clearings(unittest.TestCase):
    def setUp(self):
        # Two that owe each other, and one of them somebody outside, behind.
        self.ring = Claims([ZERO, ONE], [(0, 0, 1, (3, 1)), (1, 0, 0, (3, 1)), (0, 1, None, (2, 1))])

    def check(self, claims, totals, expected):
        totals = [money(*item) if isinstance(item, tuple) else money(item) for item in totals]
        self.assertIs(is_clearing(claims, totals), expected)

    def test_lengths(self):
        self.check(self.ring, [3, 3], True)
        self.check(self.ring, [3], False)
        self.check(self.ring, [], False)
        self.check(self.ring, [3, 3, 0], False)

    def test_below_0_and_above_the_limit(self):
        claims = Claims([(9, 1), ZERO], [(0, 0, 1, (2, 1))])
        self.check(claims, [2, 0], True)
        self.check(claims, [9, 0], False)
        self.check(claims, [3, 0], False)
        self.check(claims, [2, 2], False)
        self.check(claims, [2, -1], False)
        self.check(claims, [-1, 0], False)
        self.check(claims, [1, 0], False)

    def test_nobody_pays_more_than_it_has_nor_keeps_anything(self):
        claims = Claims([ONE, ZERO], [(0, 0, 1, (2, 1)), (1, 0, None, (3, 1))])
        self.check(claims, [1, 1], True)
        for totals in ([2, 1], [1, 2], [2, 2], [(1, 2), (1, 2)], [1, 0], [0, 0], [2, 3]):
            self.check(claims, totals, False)

    def test_lesser_clearings(self):
        claims = Claims([ZERO, ZERO], [(0, 0, 1, ONE), (1, 0, 0, ONE)])
        for totals in ([0, 0], [(1, 2), (1, 2)], [1, 1], [(1, 7), (1, 7)]):
            self.check(claims, totals, True)
        for totals in ([1, 0], [(1, 2), 1], [(1, 2), (1, 3)]):
            self.check(claims, totals, False)

    def test_ranks(self):
        self.check(self.ring, [3, 3], True)
        self.check(self.ring, [5, 3], False)
        self.check(self.ring, [4, 3], False)
        claims = Claims([ZERO, ZERO], [(0, 1, 1, (3, 1)), (1, 0, 0, (3, 1)), (0, 0, None, (2, 1))])
        for totals, expected in (([0, 0], True), ([3, 3], False), ([5, 3], False), ([2, 2], False), ([1, 1], False)):
            self.check(claims, totals, expected)

    def test_money_is_neither_made_nor_lost(self):
        chance = random.Random(43)
        found = 0
        for _ in range(3000):
            claims = some_claims(chance, 3)
            totals = []
            for issuer in range(len(claims.cash)):
                amounts = [limit_of(claims, issuer), claims.cash[issuer]]
                totals.append(amounts[0] if chance.random() < 0.7 else min(amounts, key=lambda item: Fraction(*item)))
            if not is_clearing(claims, totals):
                continue
            found += 1
            held = [has(claims, totals, issuer) for issuer in range(len(totals))]
            kept = sum(Fraction(*one) - Fraction(*other) for one, other in zip(held, totals))
            outside = [Fraction(*item) for item, debt in zip(paid(claims, totals), claims.debts) if debt[2] is None]
            self.assertEqual(sum(Fraction(*amount) for amount in claims.cash), kept + sum(outside))
        self.assertTrue(found > 500, found)

    def test_many(self):
        chance = random.Random(44)
        results = {True: 0, False: 0}
        for _ in range(3000):
            claims = some_claims(chance, 4)
            totals = []
            for issuer in range(len(claims.cash)):
                limit = Fraction(*limit_of(claims, issuer))
                totals.append(chance.choice([limit, limit, min(limit, Fraction(*claims.cash[issuer])), limit / 2]))
            totals = [Fraction(amount).as_integer_ratio() for amount in totals]
            payments = told_payments(claims, totals)
            expected = True
            for issuer, amount in enumerate(claims.cash):
                received = [Fraction(*item) for item, debt in zip(payments, claims.debts) if debt[2] == issuer]
                held = Fraction(*amount) + sum(received)
                expected = expected and Fraction(*totals[issuer]) == min(held, Fraction(*limit_of(claims, issuer)))
            self.assertIs(is_clearing(claims, totals), expected)
            results[expected] += 1
        self.assertTrue(min(results.values()) > 300, results)


if __name__ == "__main__":
    unittest.main()
