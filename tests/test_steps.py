"""Tests of consol.steps (points 44 to 47)."""

import random
import unittest
from fractions import Fraction

from consol.claims import Claims, has, is_clearing, limit_of, size_of
from consol.clearing import clear
from consol.steps import accepts_steps, floor_of, leads_on, open_rank

ZERO = (0, 1)
ONE = (1, 1)
HALF = (1, 2)


def money(p, q=1):
    return Fraction(p, q).as_integer_ratio()


def amounts(*items):
    return [Fraction(item).as_integer_ratio() for item in items]


def some_claims(chance, most_debts=12):
    issuers = chance.randint(1, 5)
    cash = [money(chance.choice([0, 0, 0, 1, 2]), chance.choice([1, 1, 3])) for _ in range(issuers)]
    debts = []
    for _ in range(chance.randint(0, most_debts)):
        debtor = chance.randrange(issuers)
        creditor = chance.choice([None] + 3 * [other for other in range(issuers) if other != debtor])
        debts.append((debtor, chance.choice([0, 0, 1, 1, 3, 5]), creditor, money(chance.choice([0, 1, 1, 2, 3, 8]))))
    return Claims(cash, debts)


def told_open_rank(claims, issuer, amount):
    sizes = [Fraction(*size_of(claims, issuer, rank)) for rank in range(6)]
    ranks = [rank for rank in range(6) if sum(sizes[:rank]) < Fraction(*amount) <= sum(sizes[:rank + 1])]
    return ranks[0] if ranks else None


def told_leads_on(claims, totals, step):
    """Whether a step leads on, by the words of the four conditions."""
    members, reached = step
    ranks = [told_open_rank(claims, issuer, amount) for issuer, amount in enumerate(totals)]
    floors = [sum(Fraction(*size_of(claims, issuer, earlier)) for earlier in range(rank or 0))
              for issuer, rank in enumerate(ranks)]
    held = [Fraction(*has(claims, reached, issuer)) for issuer in range(len(totals))]
    ends = []
    reaches = {member: [member] for member in members}
    for issuer, before in enumerate(totals):
        if issuer not in members:
            if reached[issuer] != before:
                return False
            continue
        here = Fraction(*reached[issuer])
        if not floors[issuer] <= here <= Fraction(*before) or here != max(floors[issuer], held[issuer]):
            return False
        open_debts = [debt for debt in claims.debts if debt[:2] == (issuer, ranks[issuer]) and debt[3] != ZERO]
        outside = [debt for debt in open_debts if debt[2] not in members]
        if ranks[issuer] is None or outside or held[issuer] < floors[issuer]:
            ends.append(issuer)
        reaches[issuer] += [debt[2] for debt in open_debts if debt[2] in members]
    for _ in members:
        for member in members:
            reaches[member] = sorted({far for near in reaches[member] for far in reaches[near]})
    return all(any(end in reaches[member] for end in ends) for member in members)


class Ranks(unittest.TestCase):
    def test_open_ranks_and_floors(self):
        claims = Claims([ONE, ONE], [
            (0, 3, None, (6, 1)), (0, 1, 1, (2, 1)), (0, 1, None, ONE), (0, 4, None, ZERO), (0, 0, 1, ZERO),
            (0, 5, 1, HALF),
        ])
        for amount, rank, floor in (
            (0, None, 0), (Fraction(1, 9), 1, 0), (1, 1, 0), (3, 1, 0), (Fraction(28, 9), 3, 3), (8, 3, 3), (9, 3, 3),
            (Fraction(37, 4), 5, 9), (Fraction(19, 2), 5, 9),
        ):
            amount = Fraction(amount).as_integer_ratio()
            self.assertEqual(open_rank(claims, 0, amount), rank)
            self.assertEqual(floor_of(claims, 0, amount), money(floor))
        self.assertIsNone(open_rank(claims, 1, ZERO))
        self.assertEqual(floor_of(claims, 1, ZERO), ZERO)

    def test_every_rank(self):
        claims = Claims([ONE], [(0, rank, None, money(rank + 1)) for rank in range(6)])
        limit = 0
        for rank in range(6):
            limit += rank + 1
            self.assertEqual(open_rank(claims, 0, money(limit)), rank)
            self.assertEqual(floor_of(claims, 0, money(limit)), money(limit - rank - 1))
            self.assertEqual(open_rank(claims, 0, money(2 * limit - 1, 2)), rank)


class LeadsOn(unittest.TestCase):
    def setUp(self):
        self.chain = Claims([ONE, ZERO], [(0, 0, 1, (2, 1)), (1, 0, None, (3, 1))])
        self.circle = Claims([ZERO, ZERO], [(0, 0, 1, ONE), (1, 0, 0, ONE)])

    def check(self, claims, totals, step, expected):
        step = (step[0], amounts(*step[1]))
        self.assertIs(leads_on(claims, amounts(*totals), step), expected)

    def test_examples(self):
        self.assertTrue(leads_on(self.chain, [(2, 1), (3, 1)], ([0, 1], [(1, 1), (1, 1)])))

    def test_a_step_of_one_member(self):
        self.check(self.chain, [2, 3], ([0], [1, 3]), True)
        self.check(self.chain, [2, 3], ([1], [2, 2]), True)
        self.check(self.chain, [1, 3], ([1], [1, 1]), True)

    def test_a_step_without_members(self):
        self.check(self.chain, [2, 3], ([], [2, 3]), True)
        self.check(self.chain, [2, 3], ([], [1, 3]), False)
        self.check(self.circle, [1, 1], ([], [1, 1]), True)

    def test_a_step_that_changes_nothing(self):
        self.check(self.chain, [1, 1], ([0, 1], [1, 1]), True)
        self.check(self.chain, [1, 1], ([0], [1, 1]), True)
        self.check(self.chain, [2, 3], ([0, 1], [2, 3]), False)

    def test_the_totals_of_others_stay(self):
        self.check(self.chain, [2, 3], ([0], [1, 1]), False)
        self.check(self.chain, [2, 3], ([0], [1, 2]), False)
        self.check(self.chain, [2, 3], ([1], [1, 1]), False)
        self.check(self.chain, [2, 2], ([0], [1, 3]), False)

    def test_members_do_not_rise(self):
        claims = Claims([(3, 2), ZERO], [(0, 0, 1, (2, 1)), (1, 0, None, (3, 1))])
        self.check(claims, [2, 3], ([0], [Fraction(3, 2), 3]), True)
        self.check(claims, [Fraction(3, 2), 3], ([0], [Fraction(3, 2), 3]), True)
        self.check(claims, [1, 3], ([0], [Fraction(3, 2), 3]), False)
        self.check(claims, [1, 3], ([0], [1, 3]), False)

    def test_members_pay_what_they_have(self):
        for wrong in ([1, 2], [1, 0], [Fraction(1, 2), Fraction(1, 2)], [2, 2], [0, 0], [Fraction(3, 2), 1]):
            self.check(self.chain, [2, 3], ([0, 1], wrong), False)
        self.check(self.chain, [2, 3], ([0], [0, 3]), False)
        self.check(self.chain, [2, 3], ([0], [Fraction(3, 2), 3]), False)

    def test_members_pay_their_floors_at_least(self):
        claims = Claims([ONE, ZERO], [(0, 0, None, (4, 1)), (0, 2, 1, (2, 1)), (1, 0, 0, ONE)])
        self.check(claims, [6, 1], ([0], [4, 1]), True)
        self.check(claims, [6, 1], ([0], [2, 1]), False)
        self.check(claims, [6, 1], ([0, 1], [4, 0]), True)
        self.check(claims, [4, 0], ([0], [1, 0]), True)
        self.check(claims, [4, 0], ([0, 1], [1, 0]), True)
        self.check(claims, [5, 1], ([0], [4, 1]), True)

    def test_what_a_member_has_is_that_of_the_step(self):
        claims = Claims([ONE, ZERO, ZERO], [(0, 0, 1, (2, 1)), (1, 0, 2, (2, 1)), (2, 0, None, (2, 1))])
        self.check(claims, [2, 2, 2], ([0, 1, 2], [1, 1, 1]), True)
        self.check(claims, [2, 2, 2], ([0, 1, 2], [1, 2, 2]), False)
        self.check(claims, [2, 2, 2], ([0], [1, 2, 2]), True)
        self.check(claims, [1, 2, 2], ([1, 2], [1, 1, 1]), True)
        self.check(claims, [2, 2, 2], ([0, 2], [1, 2, 2]), True)

    def test_members_that_reach_no_end(self):
        for totals in ([0, 0], [Fraction(1, 2), Fraction(1, 2)], [1, 1]):
            self.check(self.circle, [1, 1], ([0, 1], totals), False)
        self.check(self.circle, [1, 1], ([0], [1, 1]), True)
        self.check(self.circle, [0, 0], ([0, 1], [0, 0]), True)

    def test_ends_by_debts_to_somebody_outside(self):
        debts = [(0, 1, 1, ONE), (1, 0, 0, ONE)]
        self.check(Claims([ZERO, ZERO], debts + [(0, 1, None, ONE)]), [2, 1], ([0, 1], [0, 0]), True)
        self.check(Claims([ZERO, ZERO], debts + [(1, 0, None, ONE)]), [1, 2], ([0, 1], [0, 0]), True)

    def test_ends_by_debts_of_amounts_of_0_and_of_other_ranks(self):
        debts = [(0, 1, 1, ONE), (1, 1, 0, ONE)]
        self.check(Claims([ZERO, ZERO], debts + [(0, 1, None, ZERO)]), [1, 1], ([0, 1], [0, 0]), False)
        self.check(Claims([ZERO, ZERO], debts + [(0, 2, None, ONE)]), [1, 1], ([0, 1], [0, 0]), False)
        self.check(Claims([ZERO, ZERO], debts + [(0, 2, None, ONE)]), [2, 1], ([0, 1], [1, 1]), True)
        claims = Claims([ONE, ZERO], debts + [(0, 0, None, ONE)])
        self.check(claims, [2, 1], ([0, 1], [Fraction(3, 2), Fraction(1, 2)]), False)

    def test_ends_by_debts_to_issuers_that_are_no_members(self):
        debts = [(0, 0, 1, ONE), (1, 0, 0, ONE)]
        self.check(Claims([ZERO] * 3, debts + [(0, 0, 2, ONE)]), [2, 1, 0], ([0, 1], [0, 0, 0]), True)
        self.check(Claims([ZERO] * 3, debts + [(0, 0, 2, ZERO)]), [1, 1, 0], ([0, 1], [0, 0, 0]), False)

    def test_ends_by_members_without_an_open_rank(self):
        debts = [(0, 0, 1, ONE), (1, 0, 0, ONE)]
        claims = Claims([ZERO] * 3, debts + [(0, 0, 2, ONE)])
        self.check(claims, [2, 1, 0], ([0, 1, 2], [0, 0, 0]), True)
        claims = Claims([ZERO] * 3, debts + [(2, 0, None, ONE)])
        self.check(claims, [1, 1, 1], ([0, 1, 2], [0, 0, 0]), False)
        self.check(claims, [1, 1, 1], ([2], [1, 1, 0]), True)
        claims = Claims([ZERO] * 2, [(0, 0, 1, ONE)])
        self.check(claims, [1, 0], ([0], [0, 0]), True)
        self.check(claims, [1, 0], ([0, 1], [0, 0]), True)

    def test_ends_by_less_than_the_floor(self):
        claims = Claims([ZERO, ZERO], [(0, 0, None, ONE), (0, 1, 1, ONE), (1, 0, 0, ONE)])
        self.check(claims, [2, 1], ([0, 1], [1, 0]), True)
        claims = Claims([ONE, ZERO], [(0, 0, None, ONE), (0, 1, 1, ONE), (1, 0, 0, ONE)])
        self.check(claims, [2, 1], ([0, 1], [1, 0]), False)
        self.check(claims, [2, 1], ([0, 1], [2, 1]), False)
        self.check(claims, [2, 1], ([0], [2, 1]), True)

    def test_ends_that_are_reached_by_others(self):
        debts = [(0, 0, 1, ONE), (1, 0, 2, ONE), (2, 0, 3, ONE), (3, 0, None, ONE)]
        self.check(Claims([ZERO] * 4, debts), [1, 1, 1, 1], ([0, 1, 2, 3], [0, 0, 0, 0]), True)
        debts = debts[:3] + [(3, 0, 1, ONE)]
        self.check(Claims([ZERO] * 4, debts), [1, 1, 1, 1], ([0, 1, 2, 3], [0, 0, 0, 0]), False)
        debts = debts + [(4, 0, 0, ONE), (4, 0, None, ONE)]
        self.check(Claims([ZERO] * 5, debts), [1, 1, 1, 1, 2], ([0, 1, 2, 3, 4], [0, 0, 0, 0, 0]), False)
        self.check(Claims([ZERO] * 5, debts), [1, 1, 1, 1, 2], ([4], [1, 1, 1, 1, 0]), True)
        self.check(Claims([ZERO] * 5, debts), [1, 1, 1, 1, 2], ([0, 4], [0, 1, 1, 1, 0]), True)

    def test_members_that_are_no_ascending_list_of_issuers(self):
        self.check(self.chain, [2, 3], ([1, 0], [1, 1]), False)
        self.check(self.chain, [2, 3], ([0, 0, 1], [1, 1]), False)
        self.check(self.chain, [2, 3], ([0, 1, 1], [1, 1]), False)
        self.check(self.chain, [2, 3], ([0, 1, 2], [1, 1]), False)
        self.check(self.chain, [2, 3], ([-1, 0, 1], [1, 1]), False)
        self.check(self.chain, [2, 3], ([-1], [2, 2]), False)

    def test_totals_of_another_length(self):
        self.check(self.chain, [2, 3], ([0, 1], [1]), False)
        self.check(self.chain, [2, 3], ([0, 1], [1, 1, 0]), False)
        self.check(self.chain, [2, 3], ([0, 1], []), False)

    def test_many(self):
        chance = random.Random(45)
        results = {True: 0, False: 0}
        for _ in range(600):
            claims = some_claims(chance)
            issuers = range(len(claims.cash))
            reached = [limit_of(claims, issuer) for issuer in issuers]
            for step in clear(claims)[1]:
                members = [issuer for issuer in issuers if (issuer in step[0]) != (chance.random() < 0.1)]
                totals = list(step[1])
                if chance.random() < 0.2:
                    at = chance.choice(issuers)
                    totals[at] = chance.choice([ZERO, reached[at], floor_of(claims, at, reached[at])])
                expected = told_leads_on(claims, reached, (members, totals))
                self.assertIs(leads_on(claims, reached, (members, totals)), expected)
                results[expected] += 1
                reached = step[1]
        self.assertTrue(min(results.values()) > 150, results)


class Accepts(unittest.TestCase):
    def setUp(self):
        self.chain = Claims([ONE, ZERO], [(0, 0, 1, (2, 1)), (1, 0, None, (3, 1))])

    def check(self, claims, totals, steps, expected):
        steps = [(members, amounts(*reached)) for members, reached in steps]
        self.assertIs(accepts_steps(claims, amounts(*totals), steps), expected)

    def test_examples(self):
        self.check(self.chain, [1, 1], [([0, 1], [1, 1])], True)
        self.check(self.chain, [1, 1], [], False)

    def test_several_steps(self):
        self.check(self.chain, [1, 1], [([0], [1, 3]), ([1], [1, 1])], True)
        self.check(self.chain, [1, 1], [([1], [2, 2]), ([0], [1, 2]), ([1], [1, 1])], True)
        self.check(self.chain, [1, 1], [([], [2, 3]), ([0, 1], [1, 1]), ([0], [1, 1])], True)

    def test_a_step_that_does_not_lead_on(self):
        self.check(self.chain, [1, 1], [([1], [2, 1]), ([0], [1, 1])], False)
        self.check(self.chain, [1, 1], [([0, 1], [2, 3]), ([0, 1], [1, 1])], False)
        self.check(self.chain, [1, 1], [([0, 1], [1, 1]), ([0], [Fraction(1, 2), 1])], False)
        self.check(self.chain, [1, 1], [([0], [1, 3]), ([1], [2, 2])], False)

    def test_the_last_totals_are_the_given_ones(self):
        self.check(self.chain, [1, 2], [([0, 1], [1, 1])], False)
        self.check(self.chain, [2, 3], [([0, 1], [1, 1])], False)
        self.check(self.chain, [1], [([0, 1], [1, 1])], False)
        self.check(self.chain, [1, 1, 0], [([0, 1], [1, 1])], False)
        self.check(self.chain, [], [([0, 1], [1, 1])], False)

    def test_the_last_totals_are_a_clearing(self):
        self.check(self.chain, [1, 3], [([0], [1, 3])], False)
        self.check(self.chain, [2, 2], [([1], [2, 2])], False)

    def test_no_steps(self):
        claims = Claims([(2, 1), ZERO], [(0, 0, 1, (2, 1)), (1, 0, None, (2, 1))])
        self.check(claims, [2, 2], [], True)
        self.check(claims, [2, 0], [], False)
        self.check(Claims([ONE], []), [0], [], True)
        self.check(self.chain, [2, 3], [], False)

    def test_lesser_clearings_are_not_accepted(self):
        claims = Claims([ZERO, ZERO], [(0, 0, 1, ONE), (1, 0, 0, ONE)])
        self.assertTrue(is_clearing(claims, [ZERO, ZERO]) and is_clearing(claims, [HALF, HALF]))
        self.check(claims, [0, 0], [([0, 1], [0, 0])], False)
        self.check(claims, [0, 0], [([0], [0, 1]), ([1], [0, 0])], False)
        self.check(claims, [0, 0], [], False)
        self.check(claims, [Fraction(1, 2), Fraction(1, 2)], [([0, 1], [Fraction(1, 2), Fraction(1, 2)])], False)
        self.check(claims, [1, 1], [], True)
        self.check(claims, [1, 1], [([], [1, 1])], True)

    def test_floors_in_steps(self):
        claims = Claims([ONE, ZERO], [(0, 0, None, (4, 1)), (0, 2, 1, (2, 1)), (1, 0, 0, ONE)])
        self.check(claims, [1, 0], [([0, 1], [4, 0]), ([0], [1, 0])], True)
        self.check(claims, [1, 0], [([0], [4, 1]), ([0, 1], [1, 0])], True)
        self.check(claims, [1, 0], [([0, 1], [1, 0])], False)
        self.check(claims, [1, 0], [([0], [4, 1]), ([0], [2, 1]), ([0, 1], [1, 0])], True)

    def test_whoever_made_them(self):
        chance = random.Random(47)
        accepted = refused = 0
        for _ in range(500):
            claims = some_claims(chance, 8)
            issuers = range(len(claims.cash))
            greatest, steps = clear(claims)
            reached = [limit_of(claims, issuer) for issuer in issuers]
            made = []
            for _ in range(6):
                # A step of any members; each of them lowers to what is had, again and again, until that is settled.
                members = [issuer for issuer in issuers if chance.random() < 0.6]
                floors = [Fraction(*floor_of(claims, issuer, reached[issuer])) for issuer in issuers]
                totals = list(reached)
                if chance.random() < 0.3:
                    for member in members:
                        totals[member] = floors[member].as_integer_ratio()
                for _ in range(8):
                    for member in members:
                        held = Fraction(*has(claims, totals, member))
                        totals[member] = max(floors[member], held).as_integer_ratio()
                if leads_on(claims, reached, (members, totals)):
                    made.append((members, totals))
                    reached = totals
            if accepts_steps(claims, reached, made):
                self.assertEqual(reached, greatest)
                accepted += len(made) > 1
            else:
                self.assertFalse(is_clearing(claims, reached))
                refused += 1
        self.assertTrue(accepted > 30 and refused > 10, (accepted, refused))

    def test_arguments_stay(self):
        totals = [(2, 1), (3, 1)]
        step = ([0, 1], [ONE, ONE])
        leads_on(self.chain, totals, step)
        accepts_steps(self.chain, [ONE, ONE], [step])
        self.assertEqual((totals, step), ([(2, 1), (3, 1)], ([0, 1], [ONE, ONE])))


if __name__ == "__main__":
    unittest.main()
