"""Tests of consol.clearing (points 43 and 46 to 49)."""

import random
import unittest
from fractions import Fraction

from consol.claims import Claims, has, is_clearing, limit_of, paid, size_of
from consol.clearing import clear, greatest_clearing
from consol.steps import accepts_steps

ZERO = (0, 1)
ONE = (1, 1)


def money(p, q=1):
    return Fraction(p, q).as_integer_ratio()


def amounts(*items):
    return [Fraction(item).as_integer_ratio() for item in items]


def some_claims(chance, most_debts=None):
    issuers = chance.randint(1, 8)
    poor = chance.random()
    cash = [ZERO if chance.random() < poor else money(chance.choice([1, 2, 7, 9]), chance.choice([1, 2, 3]))
            for _ in range(issuers)]
    debts = []
    outside = chance.choice([0, 1, 1, 3])
    for _ in range(chance.randint(0, most_debts or chance.choice([5, 15, 60]))):
        debtor = chance.randrange(issuers)
        others = [other for other in range(issuers) if other != debtor]
        creditor = chance.choice(others + [None] * outside or [None])
        amount = money(chance.choice([0, 1, 1, 2, 3, 8]), chance.choice([1, 1, 1, 3]))
        debts.append((debtor, chance.choice([0, 0, 1, 1, 2, 5]), creditor, amount))
    return Claims(cash, debts)


def nearly(claims):
    """The greatest clearing, nearly: the totals go down from the limits as long as somebody has too little."""
    cash = [p / q for p, q in claims.cash]
    sizes = [[float(Fraction(*size_of(claims, issuer, rank))) for rank in range(6)] for issuer in range(len(cash))]
    debts = [(debtor, rank, creditor, p / q) for debtor, rank, creditor, (p, q) in claims.debts if creditor is not None]
    totals = [sum(row) for row in sizes]
    for _ in range(100000):
        held = list(cash)
        shares = []
        for issuer, row in enumerate(sizes):
            left = totals[issuer]
            shares.append([])
            for size in row:
                shares[-1].append(min(max(left, 0), size) / size if size else 0)
                left -= size
        for debtor, rank, creditor, amount in debts:
            held[creditor] += amount * shares[debtor][rank]
        lower = [min(sum(row), amount) for row, amount in zip(sizes, held)]
        if max(abs(a - b) for a, b in zip(lower, totals)) < 1e-13:
            break
        totals = lower
    return totals


class Examples(unittest.TestCase):
    def test_examples(self):
        claims = Claims([(3, 1), (0, 1)], [(0, 0, 1, (6, 1)), (1, 0, None, (2, 1)), (1, 1, 0, (4, 1))])
        self.assertEqual(greatest_clearing(claims), [(6, 1), (6, 1)])
        self.assertEqual(clear(Claims([(1, 1), (0, 1)], [(0, 0, 1, (2, 1)), (1, 0, None, (3, 1))]))[0],
                         [(1, 1), (1, 1)])


class Greatest(unittest.TestCase):
    def check(self, cash, debts, expected):
        claims = Claims(amounts(*cash), [(*debt[:3], Fraction(debt[3]).as_integer_ratio()) for debt in debts])
        totals, steps = clear(claims)
        self.assertEqual(totals, amounts(*expected))
        self.assertEqual(greatest_clearing(claims), totals)
        self.assertIs(accepts_steps(claims, totals, steps), True)
        self.assertLessEqual(len(steps), 1 + len({debt[:2] for debt in claims.debts if debt[3] != ZERO}))
        return steps

    def test_no_debts(self):
        self.check([1], [], [0])
        self.check([0, 3], [], [0, 0])
        self.check([0], [(0, 0, None, 0)], [0])

    def test_one_issuer(self):
        debts = [(0, 1, None, 2), (0, 0, None, 3)]
        for cash, total in ((0, 0), (1, 1), (3, 3), (4, 4), (5, 5), (6, 5)):
            self.check([cash], debts, [total])

    def test_everybody_pays_in_full(self):
        self.check([2, 0, 0], [(0, 0, 1, 2), (1, 3, 2, 2), (2, 5, None, 2)], [2, 2, 2])
        self.assertEqual(self.check([1], [(0, 0, None, 1)], [1]), [])

    def test_a_chain(self):
        self.check([1, 0, 1], [(0, 0, 1, 2), (1, 0, 2, 2), (2, 0, None, 2)], [1, 1, 2])
        self.check([1, 0, 0], [(0, 0, 1, 2), (1, 0, 2, 1), (1, 1, None, 4), (2, 0, None, 2)], [1, 1, 1])
        self.check([0, 0, 0], [(0, 0, 1, 2), (1, 0, 2, 2), (2, 0, None, 2)], [0, 0, 0])

    def test_circles_without_cash(self):
        self.check([0, 0], [(0, 0, 1, 1), (1, 0, 0, 1)], [1, 1])
        self.check([0, 0], [(0, 0, 1, 2), (1, 0, 0, 1)], [1, 1])
        self.check([0, 0, 0], [(0, 2, 1, 5), (1, 0, 2, 5), (2, 4, 0, 5)], [5, 5, 5])
        self.check([0, 0, 0], [(0, 2, 1, 5), (1, 0, 2, 3), (2, 4, 0, 5)], [3, 3, 3])

    def test_circles_that_somebody_outside_drains(self):
        self.check([0, 0], [(0, 0, 1, 1), (1, 0, 0, 1), (1, 0, None, 1)], [0, 0])
        self.check([0, 0], [(0, 0, 1, 1), (1, 0, 0, 1), (1, 1, None, 1)], [1, 1])
        self.check([0, 0], [(0, 0, 1, 1), (1, 1, 0, 1), (1, 0, None, 1)], [0, 0])
        self.check([0, 1], [(0, 0, 1, 1), (1, 1, 0, 1), (1, 0, None, 1)], [1, 2])
        self.check([0, Fraction(1, 2)], [(0, 0, 1, 1), (1, 1, 0, 1), (1, 0, None, 1)], [0, Fraction(1, 2)])

    def test_circles_with_cash(self):
        self.check([1, 0], [(0, 0, 1, 4), (1, 0, 0, 2), (1, 0, None, 2)], [2, 2])
        self.check([1, 1], [(0, 0, 1, 9), (1, 0, 0, 3), (1, 0, None, 6)], [2, 3])
        self.check([1, 0, 0], [(0, 0, 1, 9), (1, 0, 2, 9), (2, 0, 0, 6), (2, 0, None, 3)], [3, 3, 3])

    def test_circles_over_several_ranks(self):
        debts = [(0, 0, 1, 2), (0, 1, None, 3), (0, 2, 1, 4), (1, 0, None, 1), (1, 1, 0, 5), (1, 3, None, 2)]
        self.check([0, 0], debts, [0, 0])
        self.check([1, 0], debts, [2, 2])
        self.check([2, 0], debts, [3, 2])
        self.check([3, 0], debts, [4, 2])
        self.check([4, 0], debts, [9, 6])
        self.check([5, 0], debts, [9, 6])
        self.check([5, 1], debts, [9, 7])
        self.check([5, 2], debts, [9, 8])
        self.check([5, 3], debts, [9, 8])

    def test_a_circle_beside_one_that_falls(self):
        self.check([0, 0, 0, 0], [(0, 0, 1, 1), (1, 0, 0, 1), (2, 0, 3, 2), (3, 0, None, 2)], [1, 1, 0, 0])
        self.check([0, 0, 0], [(0, 0, 1, 1), (1, 0, 0, 1), (2, 0, 0, 3)], [1, 1, 0])

    def test_a_circle_that_is_left_behind_by_ranks(self):
        # The last two end up paying each other alone, at totals below their limits.
        self.check([0, 0, 0, 0], [(0, 1, 3, 2), (1, 0, 3, Fraction(5, 3)), (2, 5, None, 1), (0, 1, 3, 9), (3, 5, 2, 1),
                                  (3, 1, 1, 1)], [0, 1, 0, 1])
        self.check([0, 0, 2], [(1, 1, 0, 9), (2, 0, 1, 1), (1, 0, 2, Fraction(5, 3)), (0, 4, None, 2), (1, 2, None, 1),
                               (0, 5, None, 1), (2, 1, None, 2), (2, 5, 1, 1)], [0, Fraction(5, 3), Fraction(11, 3)])

    def test_proportions(self):
        self.check([5, 0, 0], [(0, 0, 1, 2), (0, 0, 2, 8), (1, 0, None, 2), (2, 0, None, 8)], [5, 1, 4])
        self.check([5, 0, 0], [(0, 0, 1, 2), (0, 1, 2, 8), (1, 0, None, 2), (2, 0, None, 8)], [5, 2, 3])

    def test_a_debt_that_is_divided(self):
        chance = random.Random(491)
        for _ in range(60):
            claims = some_claims(chance, 12)
            debts = []
            for debtor, rank, creditor, amount in claims.debts:
                part = Fraction(*amount) * Fraction(chance.randint(0, 4), 4)
                debts.append((debtor, rank, creditor, part.as_integer_ratio()))
                debts.append((debtor, rank, creditor, (Fraction(*amount) - part).as_integer_ratio()))
            chance.shuffle(debts)
            self.assertEqual(greatest_clearing(Claims(claims.cash, debts)), greatest_clearing(claims))

    def test_amounts_that_are_multiplied(self):
        chance = random.Random(492)
        for _ in range(60):
            claims = some_claims(chance)
            factor = Fraction(chance.randint(1, 9), chance.randint(1, 9))

            def more(amount):
                return (Fraction(*amount) * factor).as_integer_ratio()

            other = Claims([more(amount) for amount in claims.cash],
                           [(*debt[:3], more(debt[3])) for debt in claims.debts])
            self.assertEqual(greatest_clearing(other), [more(amount) for amount in greatest_clearing(claims)])

    def test_more_cash(self):
        chance = random.Random(493)
        for _ in range(100):
            claims = some_claims(chance)
            cash = list(claims.cash)
            at = chance.randrange(len(cash))
            cash[at] = (Fraction(*cash[at]) + Fraction(chance.randint(1, 9), 4)).as_integer_ratio()
            richer = Claims(cash, claims.debts)
            before = paid(claims, greatest_clearing(claims))
            after = paid(richer, greatest_clearing(richer))
            self.assertTrue(all(Fraction(*a) <= Fraction(*b) for a, b in zip(before, after)))

    def test_many(self):
        chance = random.Random(48)
        lengths = {}
        for _ in range(500):
            claims = some_claims(chance)
            totals, steps = clear(claims)
            self.assertEqual(greatest_clearing(claims), totals)
            self.assertIs(is_clearing(claims, totals), True)
            self.assertIs(accepts_steps(claims, totals, steps), True)
            ranks = [(issuer, rank) for issuer in range(len(claims.cash)) for rank in range(6)
                     if size_of(claims, issuer, rank) != ZERO]
            self.assertLessEqual(len(steps), len(ranks) + 1)
            for amount, near in zip(totals, nearly(claims)):
                self.assertAlmostEqual(float(Fraction(*amount)), near, delta=1e-6)
            lengths[len(steps)] = lengths.get(len(steps), 0) + 1
        self.assertTrue(max(lengths) >= 6 and lengths[0] > 20, lengths)

    def test_the_largest_claims(self):
        chance = random.Random(480)
        for _ in range(20):
            debts = []
            for at in range(60):
                debtor = at // 6 if at < 48 else chance.randrange(8)
                creditor = chance.choice([other for other in range(8) if other != debtor] + [None])
                debts.append((debtor, at % 6, creditor, money(chance.randint(1, 10 ** 6), chance.randint(1, 1000))))
            claims = Claims([money(chance.randint(0, 10 ** 6), chance.randint(1, 1000)) for _ in range(8)], debts)
            totals, steps = clear(claims)
            self.assertIs(accepts_steps(claims, totals, steps), True)
            self.assertLessEqual(len(steps), 49)
            kept = sum(Fraction(*has(claims, totals, issuer)) - Fraction(*totals[issuer]) for issuer in range(8))
            outside = sum(Fraction(*part) for part, debt in zip(paid(claims, totals), debts) if debt[2] is None)
            self.assertEqual(sum(Fraction(*amount) for amount in claims.cash), kept + outside)
            short = [issuer for issuer in range(8) if totals[issuer] != limit_of(claims, issuer)]
            self.assertTrue(all(has(claims, totals, issuer) == totals[issuer] for issuer in short))

    def test_the_claims_stay(self):
        claims = Claims([ONE, ZERO], [(0, 0, 1, (2, 1)), (1, 0, None, (3, 1))])
        totals, steps = clear(claims)
        totals.append(ONE)
        for members, reached in steps:
            members.append(7)
            reached.append(ONE)
        self.assertEqual((claims.cash, claims.debts), ([ONE, ZERO], [(0, 0, 1, (2, 1)), (1, 0, None, (3, 1))]))
        self.assertEqual(clear(claims)[0], [ONE, ONE])

    def test_the_totals_are_a_list_of_their_own(self):
        claims = Claims([ONE, ZERO], [(0, 0, 1, (2, 1)), (1, 0, None, (3, 1))])
        totals, steps = clear(claims)
        totals[0] = ZERO
        self.assertIs(accepts_steps(claims, [ONE, ONE], steps), True)


if __name__ == "__main__":
    unittest.main()
