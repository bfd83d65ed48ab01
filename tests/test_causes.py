"""Tests of consol.causes (points 50 to 52)."""

import itertools
import random
import unittest
from fractions import Fraction

from consol.causes import hurts, is_weak, rescue, row_of_causes, short_issuers
from consol.claims import Claims, limit_of, paid
from consol.clearing import greatest_clearing

ZERO = (0, 1)
ONE = (1, 1)


def amounts(*items):
    return [Fraction(item).as_integer_ratio() for item in items]


def claims_of(cash, debts):
    return Claims(amounts(*cash), [(*debt[:3], Fraction(debt[3]).as_integer_ratio()) for debt in debts])


def chain(cash, words, amount=1):
    """Claims by words: "01" is a debt of 0 to 1, "2-" one of 2 to somebody outside."""
    debts = [(int(word[0]), 0, None if word[1] == "-" else int(word[1]), amount) for word in words.split()]
    return claims_of(cash, debts)


def some_claims(chance):
    issuers = chance.randint(1, 7)
    poor = chance.random()
    cash = [0 if chance.random() < poor else Fraction(chance.choice([1, 2, 7]), chance.choice([1, 3]))
            for _ in range(issuers)]
    debts = []
    for _ in range(chance.randint(0, chance.choice([5, 15]))):
        debtor = chance.randrange(issuers)
        creditor = chance.choice([other for other in range(issuers) if other != debtor] + [None])
        debts.append((debtor, chance.choice([0, 0, 1, 3]), creditor, chance.choice([0, 1, 1, 2, 3])))
    return claims_of(cash, debts)


def lack(claims, issuer):
    owed = sum(Fraction(*debt[3]) for debt in claims.debts if debt[2] == issuer)
    return Fraction(*limit_of(claims, issuer)) - Fraction(*claims.cash[issuer]) - owed


class Examples(unittest.TestCase):
    def test_examples(self):
        claims = Claims([(1, 1), (0, 1)], [(0, 0, 1, (2, 1)), (1, 0, None, (3, 1))])
        self.assertEqual((short_issuers(claims), row_of_causes(claims, 1), rescue(claims)),
                         ([0, 1], [1], [(1, 1), (1, 1)]))


class Weak(unittest.TestCase):
    def test_weak_issuers(self):
        claims = claims_of([1, 0, 3, 1], [(0, 0, 1, 2), (1, 1, 2, 2), (2, 5, None, 5), (3, 0, 0, 0), (3, 0, None, 2)])
        self.assertEqual([is_weak(claims, issuer) for issuer in range(4)], [True, False, False, True])

    def test_edges(self):
        self.assertIs(is_weak(claims_of([2], [(0, 0, None, 2)]), 0), False)
        self.assertIs(is_weak(claims_of([Fraction(19, 10)], [(0, 0, None, 2)]), 0), True)
        self.assertIs(is_weak(claims_of([0], []), 0), False)
        self.assertIs(is_weak(claims_of([0, 0], [(0, 0, 1, 2), (1, 3, 0, 2)]), 0), False)
        self.assertIs(is_weak(claims_of([0, 0], [(0, 0, 1, 2), (0, 3, 1, 1), (1, 3, 0, 2)]), 0), True)

    def test_many(self):
        chance = random.Random(50)
        for _ in range(300):
            claims = some_claims(chance)
            for issuer in range(len(claims.cash)):
                self.assertIs(is_weak(claims, issuer), lack(claims, issuer) > 0)


class Short(unittest.TestCase):
    def test_short_ones(self):
        self.assertEqual(short_issuers(chain([1, 0, 0], "01 12 2-")), [])
        self.assertEqual(short_issuers(chain([Fraction(1, 2), 0, 0], "01 12 2-")), [0, 1, 2])
        self.assertEqual(short_issuers(chain([Fraction(1, 2), 0, 1], "01 12 2-")), [0, 1])
        self.assertEqual(short_issuers(chain([0, 0], "01 10")), [])
        self.assertEqual(short_issuers(claims_of([1], [])), [])

    def test_short_ones_that_are_not_weak(self):
        claims = chain([0, 0, 0, 5], "01 12 2- 3-")
        self.assertEqual(short_issuers(claims), [0, 1, 2])
        self.assertEqual([is_weak(claims, issuer) for issuer in range(4)], [True, False, False, False])

    def test_weak_ones_are_short(self):
        chance = random.Random(51)
        seen = {True: 0, False: 0}
        for _ in range(300):
            claims = some_claims(chance)
            short = short_issuers(claims)
            totals = greatest_clearing(claims)
            self.assertEqual(short, [at for at, amount in enumerate(totals) if amount != limit_of(claims, at)])
            for issuer in short:
                seen[is_weak(claims, issuer)] += 1
            for issuer in range(len(claims.cash)):
                self.assertTrue(issuer in short or not is_weak(claims, issuer))
        self.assertTrue(min(seen.values()) > 50, seen)


class Hurts(unittest.TestCase):
    def test_who_hurts_whom(self):
        claims = claims_of([1, 0, 0], [(0, 0, 1, 1), (0, 1, 2, 1), (1, 0, 2, 1), (0, 2, 1, 0)])
        pairs = [pair for pair in itertools.product(range(3), repeat=2) if hurts(claims, *pair)]
        self.assertEqual(pairs, [(0, 2)])

    def test_a_debt_of_0_hurts_nobody(self):
        claims = claims_of([0, 0], [(0, 0, None, 1), (0, 1, 1, 0)])
        self.assertIs(hurts(claims, 0, 1), False)

    def test_a_debt_to_somebody_outside_hurts_no_issuer(self):
        claims = claims_of([0, 0], [(0, 0, None, 1)])
        self.assertEqual([hurts(claims, *pair) for pair in itertools.product(range(2), repeat=2)], [False] * 4)

    def test_one_debt_of_several_is_enough(self):
        claims = claims_of([2, 0], [(0, 0, 1, 1), (0, 1, None, 1), (0, 2, 1, 1)])
        self.assertIs(hurts(claims, 0, 1), True)
        self.assertIs(hurts(claims, 1, 0), False)

    def test_many(self):
        chance = random.Random(52)
        for _ in range(150):
            claims = some_claims(chance)
            payments = paid(claims, greatest_clearing(claims))
            pairs = {debt[0::2][:2] for debt, part in zip(claims.debts, payments) if part != debt[3]}
            for pair in itertools.product(range(len(claims.cash)), repeat=2):
                self.assertIs(hurts(claims, *pair), pair in pairs)


class Rows(unittest.TestCase):
    def check(self, claims, rows):
        self.assertEqual([row_of_causes(claims, issuer) for issuer in range(len(claims.cash))], rows)

    def test_nobody_short(self):
        self.check(chain([1, 0, 0], "01 12 2-"), [None, None, None])
        self.check(claims_of([0], []), [None])

    def test_every_length(self):
        claims = chain([0] * 8, "01 12 23 34 45 56 67 7-")
        self.check(claims, [list(range(issuer + 1)) for issuer in range(8)])
        claims = chain([0] * 8, "76 65 54 43 32 21 10 0-")
        self.check(claims, [list(range(7, issuer - 1, -1)) for issuer in range(8)])

    def test_an_issuer_that_is_not_short(self):
        self.check(chain([0, 0, 1], "01 12 2-"), [[0], [0, 1], None])

    def test_a_weak_one_is_its_own_cause(self):
        claims = claims_of([0, 0], [(0, 0, 1, 1), (1, 0, None, 2)])
        self.check(claims, [[0], [1]])

    def test_the_shortest_one(self):
        claims = claims_of([0] * 5, [(0, 0, 1, 1), (1, 0, 2, 1), (2, 0, 4, 1), (3, 0, 4, 1), (4, 0, None, 2)])
        self.check(claims, [[0], [0, 1], [0, 1, 2], [3], [3, 4]])

    def test_the_least_one_of_several_shortest(self):
        claims = claims_of([0] * 6, [(5, 0, 4, 1), (4, 0, 1, 1), (3, 0, 2, 1), (2, 0, 1, 1), (1, 0, None, 2),
                                     (0, 0, None, 0)])
        self.check(claims, [None, [3, 2, 1], [3, 2], [3], [5, 4], [5]])
        claims = claims_of([0] * 6, [(0, 0, 4, 1), (4, 0, 1, 1), (3, 0, 2, 1), (2, 0, 1, 1), (1, 0, None, 2)])
        self.check(claims, [[0], [0, 4, 1], [3, 2], [3], [0, 4], None])
        claims = claims_of([0] * 4, [(0, 0, 1, 1), (0, 0, 2, 1), (1, 0, 3, 1), (2, 0, 3, 1), (3, 0, None, 2)])
        self.check(claims, [[0], [0, 1], [0, 2], [0, 1, 3]])
        claims = claims_of([0] * 4, [(0, 0, 2, 1), (0, 0, 1, 1), (2, 0, 3, 1), (1, 0, 3, 1), (3, 0, None, 2)])
        self.check(claims, [[0], [0, 1], [0, 2], [0, 1, 3]])

    def test_only_hurt_ones_are_led_to(self):
        claims = claims_of([1, 0, 0, 0], [(0, 0, 1, 1), (0, 1, 2, 1), (1, 0, 3, 1), (2, 0, 3, 1), (3, 0, None, 2)])
        self.check(claims, [[0], None, [0, 2], [0, 2, 3]])

    def test_many(self):
        chance = random.Random(53)
        lengths = {}
        for _ in range(400):
            claims = some_claims(chance)
            issuers = range(len(claims.cash))
            payments = paid(claims, greatest_clearing(claims))
            pairs = {(debt[0], debt[2]) for debt, part in zip(claims.debts, payments) if part != debt[3]}
            short = short_issuers(claims)
            for issuer in issuers:
                rows = [[issuer]]
                found = []
                while rows and not found and issuer in short:
                    found = sorted(row for row in rows if lack(claims, row[0]) > 0)
                    rows = [[near, *row] for row in rows for near in issuers
                            if (near, row[0]) in pairs and near not in row]
                expected = found[0] if found else None
                self.assertEqual(row_of_causes(claims, issuer), expected)
                self.assertEqual(expected is None, issuer not in short)
                length = len(expected or [])
                lengths[length] = lengths.get(length, 0) + 1
        self.assertTrue(min(lengths[0], lengths[1], lengths[2]) > 10 and lengths[3] > 0, lengths)


class Rescues(unittest.TestCase):
    def test_amounts(self):
        claims = claims_of([1, 0, 3, 1], [(0, 0, 1, 2), (1, 1, 2, 2), (2, 5, None, 5), (3, 0, 0, 0), (3, 0, None, 2)])
        self.assertEqual(rescue(claims), amounts(1, 0, 0, 1))
        self.assertEqual(rescue(claims_of([9, 0], [(0, 0, 1, 2)])), amounts(0, 0))
        self.assertEqual(rescue(claims_of([0], [])), amounts(0))
        self.assertEqual(rescue(claims_of([Fraction(1, 3)], [(0, 0, None, 1), (0, 4, None, Fraction(1, 2))])),
                         amounts(Fraction(7, 6)))

    def test_everybody_pays_in_full(self):
        chance = random.Random(54)
        helped = 0
        for _ in range(300):
            claims = some_claims(chance)
            further = rescue(claims)
            cash = [(Fraction(*a) + Fraction(*b)).as_integer_ratio() for a, b in zip(claims.cash, further)]
            self.assertEqual(short_issuers(Claims(cash, claims.debts)), [])
            for issuer, amount in enumerate(further):
                self.assertGreaterEqual(Fraction(*amount), 0)
                if amount == ZERO:
                    continue
                helped += 1
                less = [(Fraction(*part) + 1000).as_integer_ratio() for part in cash]
                less[issuer] = (Fraction(*cash[issuer]) - Fraction(*amount) / 1000).as_integer_ratio()
                self.assertIn(issuer, short_issuers(Claims(less, claims.debts)))
        self.assertTrue(helped > 100, helped)

    def test_the_claims_stay(self):
        claims = Claims([ONE, ZERO], [(0, 0, 1, (2, 1)), (1, 0, None, (3, 1))])
        rescue(claims).append(ONE)
        short_issuers(claims).append(3)
        row_of_causes(claims, 0).append(3)
        self.assertEqual((claims.cash, claims.debts), ([ONE, ZERO], [(0, 0, 1, (2, 1)), (1, 0, None, (3, 1))]))
        self.assertEqual((rescue(claims), short_issuers(claims)), ([ONE, ONE], [0, 1]))


if __name__ == "__main__":
    unittest.main()
