"""Tests of consol.holders (points 62 to 66)."""

import itertools
import random
import unittest
from fractions import Fraction

from consol.errors import (
    DuplicateAccount, InvalidDay, InvalidShare, InvalidUnits, NotAHolder, NotANominee, NotNoted, NoVote,
    TooDeep, TooFew, UnknownAccount,
)
from consol.holders import Holders
from helping import error_of

ONE = (1, 1)


def some_holders():
    """Accounts under nominees under nominees; `deep` has three above it."""
    holders = Holders("state", 100)
    holders.open_account("bank", nominee=True)
    holders.open_account("desk", under="bank", nominee=True)
    holders.open_account("till", under="desk", nominee=True)
    holders.open_account("deep", under="till")
    holders.open_account("ann", under="bank")
    holders.open_account("bob")
    holders.open_account("shop", nominee=True)
    holders.open_account("cat", under="shop")
    return holders


def state_of(holders):
    names = holders.accounts()
    held = [(name, holders.held(name), holders.above(name), holders.is_nominee(name)) for name in names]
    return held, [(day, holders.noted(day)) for day in holders.noted_days()]


class Examples(unittest.TestCase):
    def test_examples(self):
        holders = Holders("state", 100)
        holders.open_account("bank", nominee=True)
        holders.open_account("ann", under="bank")
        holders.open_account("bob")
        holders.move("state", "ann", 30)
        holders.move("state", "bob", 10)
        holders.note(5)
        self.assertEqual((holders.noted(5), holders.above("ann")),
                         ([("state", 60), ("bank", 30), ("ann", 30), ("bob", 10)], ["bank"]))
        self.assertEqual(holders.entitled(5, (50, 1)), [("state", (30, 1)), ("ann", (15, 1)), ("bob", (5, 1))])
        votes = [("ann", True)]
        self.assertEqual((holders.tally(5, votes), holders.is_taken(5, votes, (3, 4))), ((30, 0, 10), True))
        self.assertEqual(error_of(holders.move, "ann", "bob", 31), (TooFew, {"name": "ann", "held": 30}))


class Accounts(unittest.TestCase):
    def test_at_the_beginning(self):
        holders = Holders("state", 7)
        self.assertEqual(state_of(holders), ([("state", 7, [], False)], []))

    def test_accounts_that_were_opened(self):
        holders = some_holders()
        self.assertEqual(holders.accounts(), ["state", "bank", "desk", "till", "deep", "ann", "bob", "shop", "cat"])
        nominees = [name for name in holders.accounts() if holders.is_nominee(name)]
        self.assertEqual(nominees, ["bank", "desk", "till", "shop"])
        self.assertEqual({name: holders.above(name) for name in ("state", "bank", "desk", "deep", "ann", "cat")}, {
            "state": [], "bank": [], "desk": ["bank"], "deep": ["bank", "desk", "till"], "ann": ["bank"],
            "cat": ["shop"],
        })
        self.assertEqual([holders.held(name) for name in holders.accounts()], [100] + [0] * 8)

    def test_what_nominees_hold(self):
        holders = some_holders()
        for name, units in (("deep", 5), ("ann", 20), ("bob", 1), ("cat", 4)):
            holders.move("state", name, units)
        held = {name: holders.held(name) for name in holders.accounts()}
        self.assertEqual(held, {
            "state": 70, "bank": 25, "desk": 5, "till": 5, "deep": 5, "ann": 20, "bob": 1, "shop": 4, "cat": 4,
        })

    def test_errors_of_opening(self):
        holders = some_holders()
        before = state_of(holders)
        for name in ("state", "ann", "bank"):
            self.assertEqual(error_of(holders.open_account, name), (DuplicateAccount, {"name": name}))
        self.assertEqual(error_of(holders.open_account, "new", under="gone"), (UnknownAccount, {"name": "gone"}))
        self.assertEqual(error_of(holders.open_account, "new", under="new"), (UnknownAccount, {"name": "new"}))
        self.assertEqual(error_of(holders.open_account, "new", under="ann"), (NotANominee, {"name": "ann"}))
        self.assertEqual(error_of(holders.open_account, "new", under="state"), (NotANominee, {"name": "state"}))
        self.assertEqual(state_of(holders), before)

    def test_order_of_the_errors_of_opening(self):
        holders = some_holders()
        self.assertEqual(error_of(holders.open_account, "ann", under="gone"), (DuplicateAccount, {"name": "ann"}))
        self.assertEqual(error_of(holders.open_account, "ann", under="bob"), (DuplicateAccount, {"name": "ann"}))
        holders.open_account("low", under="till", nominee=True)
        self.assertEqual(error_of(holders.open_account, "ann", under="low"), (DuplicateAccount, {"name": "ann"}))

    def test_four_nominees_deep(self):
        holders = some_holders()
        holders.open_account("low", under="till", nominee=True)
        self.assertEqual(holders.above("low"), ["bank", "desk", "till"])
        self.assertEqual(error_of(holders.open_account, "new", under="low"), (TooDeep, {}))
        self.assertEqual(error_of(holders.open_account, "new", under="low", nominee=True), (TooDeep, {}))
        self.assertEqual(error_of(holders.open_account, "new", under="deep"), (NotANominee, {"name": "deep"}))
        holders.open_account("new", under="till")
        self.assertEqual(holders.above("new"), ["bank", "desk", "till"])

    def test_unknown_names(self):
        holders = some_holders()
        for call in (holders.is_nominee, holders.above, holders.held):
            self.assertEqual(error_of(call, "gone"), (UnknownAccount, {"name": "gone"}))

    def test_lists_are_new(self):
        holders = some_holders()
        before = state_of(holders)
        holders.accounts().append("new")
        holders.above("deep").append("new")
        holders.above("bank").append("new")
        self.assertEqual(state_of(holders), before)


class Moves(unittest.TestCase):
    def test_moves_between_all_sorts_of_accounts(self):
        names = ["state", "deep", "ann", "bob", "cat"]
        for source, target in itertools.permutations(names, 2):
            holders = some_holders()
            for name in names[1:]:
                holders.move("state", name, 10)
            before = {name: holders.held(name) for name in holders.accounts()}
            holders.move(source, target, 4)
            for name in holders.accounts():
                change = 0
                if name in [target, *holders.above(target)]:
                    change += 4
                if name in [source, *holders.above(source)]:
                    change -= 4
                self.assertEqual(holders.held(name), before[name] + change, (source, target, name))

    def test_all_units(self):
        holders = some_holders()
        holders.move("state", "ann", 100)
        self.assertEqual((holders.held("state"), holders.held("ann")), (0, 100))
        holders.move("ann", "state", 100)
        self.assertEqual((holders.held("state"), holders.held("ann")), (100, 0))

    def test_errors(self):
        holders = some_holders()
        holders.move("state", "ann", 5)
        before = state_of(holders)
        for source, target, units, error in (
            ("gone", "ann", 1, (UnknownAccount, {"name": "gone"})),
            ("ann", "gone", 1, (UnknownAccount, {"name": "gone"})),
            ("bank", "ann", 1, (NotAHolder, {"name": "bank"})),
            ("ann", "bank", 1, (NotAHolder, {"name": "bank"})),
            ("ann", "bob", 0, (InvalidUnits, {})),
            ("ann", "bob", -3, (InvalidUnits, {})),
            ("ann", "ann", 1, (InvalidUnits, {})),
            ("ann", "bob", 6, (TooFew, {"name": "ann", "held": 5})),
            ("bob", "ann", 1, (TooFew, {"name": "bob", "held": 0})),
        ):
            self.assertEqual(error_of(holders.move, source, target, units), error)
        self.assertEqual(state_of(holders), before)

    def test_order_of_the_errors(self):
        holders = some_holders()
        for source, target, units, error in (
            ("gone", "lost", 0, (UnknownAccount, {"name": "gone"})),
            ("bank", "lost", 0, (UnknownAccount, {"name": "lost"})),
            ("gone", "bank", 0, (UnknownAccount, {"name": "gone"})),
            ("bank", "shop", 0, (NotAHolder, {"name": "bank"})),
            ("shop", "bank", 500, (NotAHolder, {"name": "shop"})),
            ("ann", "shop", 0, (NotAHolder, {"name": "shop"})),
            ("bank", "bank", 1, (NotAHolder, {"name": "bank"})),
            ("gone", "gone", 1, (UnknownAccount, {"name": "gone"})),
            ("ann", "ann", 500, (InvalidUnits, {})),
            ("ann", "ann", 0, (InvalidUnits, {})),
        ):
            self.assertEqual(error_of(holders.move, source, target, units), error, (source, target, units))

    def test_orders_of_two_moves(self):
        chance = random.Random(63)
        names = ["state", "deep", "ann", "bob", "cat"]
        both = 0
        for _ in range(300):
            moves = [(*chance.sample(names, 2), chance.randint(1, 30)) for _ in range(2)]
            found = []
            for order in (moves, moves[::-1]):
                holders = some_holders()
                for name in names[1:]:
                    holders.move("state", name, 20)
                if all(error_of(holders.move, *move) is None for move in order):
                    found.append(state_of(holders))
            if len(found) == 2:
                both += 1
                self.assertEqual(found[0], found[1])
        self.assertGreater(both, 50)

    def test_the_sum_stays(self):
        chance = random.Random(62)
        holders = some_holders()
        names = holders.accounts()
        for _ in range(500):
            error_of(holders.move, chance.choice(names), chance.choice(names), chance.randint(-1, 60))
            direct = [name for name in names if not holders.is_nominee(name)]
            self.assertEqual(sum(holders.held(name) for name in direct), 100)
            self.assertTrue(all(holders.held(name) >= 0 for name in names))
            for nominee in ("bank", "desk", "till", "shop"):
                beneath = [name for name in direct if nominee in holders.above(name)]
                self.assertEqual(holders.held(nominee), sum(holders.held(name) for name in beneath))


class Notes(unittest.TestCase):
    def test_notes_stay(self):
        holders = some_holders()
        holders.note(0)
        holders.move("state", "deep", 10)
        holders.note(1)
        holders.note(2)
        holders.move("deep", "bob", 10)
        holders.open_account("new")
        holders.move("bob", "new", 3)
        holders.note(9)
        self.assertEqual(holders.noted_days(), [0, 1, 2, 9])
        first = [("state", 100)]
        second = [("state", 90), ("bank", 10), ("desk", 10), ("till", 10), ("deep", 10)]
        third = [("state", 90), ("bob", 7), ("new", 3)]
        self.assertEqual([holders.noted(day) for day in (0, 1, 2, 9)], [first, second, second, third])

    def test_notes_are_in_the_order_of_opening(self):
        holders = some_holders()
        holders.move("state", "cat", 60)
        holders.move("state", "bob", 30)
        holders.move("state", "ann", 10)
        holders.note(3)
        self.assertEqual(holders.noted(3), [("bank", 10), ("ann", 10), ("bob", 30), ("shop", 60), ("cat", 60)])

    def test_days(self):
        holders = some_holders()
        self.assertEqual(error_of(holders.note, -1), (InvalidDay, {}))
        self.assertEqual(holders.noted_days(), [])
        holders.note(4)
        for day in (4, 3, 0, -1):
            self.assertEqual(error_of(holders.note, day), (InvalidDay, {}))
        holders.move("state", "ann", 1)
        self.assertEqual(error_of(holders.note, 4), (InvalidDay, {}))
        self.assertEqual((holders.noted_days(), holders.noted(4)), ([4], [("state", 100)]))
        holders.note(5)
        self.assertEqual(holders.noted(5), [("state", 99), ("bank", 1), ("ann", 1)])

    def test_days_that_are_not_noted(self):
        holders = some_holders()
        holders.note(4)
        for day in (-1, 0, 3, 5):
            error = (NotNoted, {"day": day})
            self.assertEqual(error_of(holders.noted, day), error)
            self.assertEqual(error_of(holders.entitled, day, ONE), error)
            self.assertEqual(error_of(holders.passed, day, ONE), error)
            self.assertEqual(error_of(holders.tally, day, []), error)
            self.assertEqual(error_of(holders.is_taken, day, [], ONE), error)

    def test_lists_are_new(self):
        holders = some_holders()
        holders.note(4)
        holders.noted(4).append(("new", 1))
        holders.noted_days().append(7)
        holders.entitled(4, ONE).append(("new", ONE))
        holders.passed(4, ONE).append(("new", ONE))
        holders.note(5)
        self.assertEqual((holders.noted(4), holders.noted(5), holders.noted_days()),
                         ([("state", 100)], [("state", 100)], [4, 5]))
        self.assertEqual((holders.entitled(4, ONE), holders.passed(4, ONE)), ([("state", ONE)], [("state", ONE)]))


class Amounts(unittest.TestCase):
    def test_what_is_passed(self):
        holders = some_holders()
        holders.move("state", "deep", 10)
        holders.move("state", "ann", 15)
        holders.move("state", "cat", 75)
        holders.note(1)
        holders.move("cat", "bob", 75)
        self.assertEqual(holders.passed(1, (1, 3)), [
            ("bank", (1, 12)), ("desk", (1, 30)), ("till", (1, 30)), ("deep", (1, 30)), ("ann", (1, 20)),
            ("shop", (1, 4)), ("cat", (1, 4)),
        ])
        self.assertEqual(holders.entitled(1, (1, 3)), [("deep", (1, 30)), ("ann", (1, 20)), ("cat", (1, 4))])
        self.assertEqual(holders.entitled(1, (0, 1)), [("deep", (0, 1)), ("ann", (0, 1)), ("cat", (0, 1))])

    def test_sums(self):
        chance = random.Random(65)
        for _ in range(60):
            holders = some_holders()
            for name in ("deep", "ann", "bob", "cat"):
                error_of(holders.move, "state", name, chance.randint(0, 30))
            holders.note(3)
            first, second = [Fraction(chance.randint(0, 90), chance.randint(1, 9)) for _ in range(2)]
            amounts = [amount.as_integer_ratio() for amount in (first, second, first + second)]
            passed = [dict(holders.passed(3, amount)) for amount in amounts]
            entitled = [dict(holders.entitled(3, amount)) for amount in amounts]
            self.assertEqual(sum(Fraction(*money) for money in entitled[0].values()), first)
            for name in entitled[0]:
                self.assertEqual(Fraction(*entitled[0][name]) + Fraction(*entitled[1][name]),
                                 Fraction(*entitled[2][name]))
                self.assertEqual(passed[0][name], entitled[0][name])
            for nominee in ("bank", "desk", "till", "shop"):
                beneath = [name for name in entitled[0] if nominee in holders.above(name)]
                self.assertEqual(sum(Fraction(*entitled[0][name]) for name in beneath),
                                 Fraction(*passed[0].get(nominee, (0, 1))))


def voters():
    """On day 1 the issuer holds 40, ann 30, bob 20, cat 10, deep nothing."""
    holders = some_holders()
    for name, units in (("ann", 30), ("bob", 20), ("cat", 10)):
        holders.move("state", name, units)
    holders.note(1)
    return holders


class Votes(unittest.TestCase):
    def test_tallies(self):
        holders = voters()
        for votes, tally in (
            ([], (0, 0, 60)),
            ([("ann", True)], (30, 0, 30)),
            ([("ann", False)], (0, 30, 30)),
            ([("ann", True), ("bob", True), ("cat", False)], (50, 10, 0)),
            ([("deep", True)], (0, 0, 60)),
        ):
            self.assertEqual(holders.tally(1, votes), tally)

    def test_the_order_does_not_matter_and_the_sum_stays(self):
        holders = voters()
        for choices in itertools.product([None, True, False], repeat=4):
            votes = [(name, choice) for name, choice in zip(["ann", "bob", "cat", "deep"], choices) if choice is not None]
            found = {holders.tally(1, list(order)) for order in itertools.permutations(votes)}
            self.assertEqual(len(found), 1)
            self.assertEqual(sum(found.pop()), 60)

    def test_units_of_the_note_count(self):
        holders = voters()
        holders.move("ann", "bob", 30)
        holders.move("state", "cat", 40)
        holders.open_account("new")
        holders.move("bob", "new", 50)
        holders.note(2)
        self.assertEqual(holders.tally(1, [("ann", True), ("new", True)]), (30, 0, 30))
        self.assertEqual(holders.tally(2, [("ann", True), ("new", False)]), (0, 50, 50))

    def test_wrong_votes(self):
        holders = voters()
        for votes, error in (
            ([("gone", True)], (UnknownAccount, {"name": "gone"})),
            ([("bank", True)], (NotAHolder, {"name": "bank"})),
            ([("state", False)], (NoVote, {"name": "state"})),
            ([("ann", True), ("ann", False)], (NoVote, {"name": "ann"})),
            ([("bob", True), ("ann", True), ("ann", True), ("gone", True)], (NoVote, {"name": "ann"})),
            ([("ann", True), ("bank", True), ("ann", True)], (NotAHolder, {"name": "bank"})),
            ([("bank", True), ("gone", True)], (NotAHolder, {"name": "bank"})),
            ([("state", True), ("bank", True)], (NoVote, {"name": "state"})),
        ):
            self.assertEqual(error_of(holders.tally, 1, votes), error)
            self.assertEqual(error_of(holders.is_taken, 1, votes, ONE), error)
        self.assertEqual(error_of(holders.tally, 7, [("gone", True)]), (NotNoted, {"day": 7}))

    def test_shares(self):
        holders = voters()
        votes = [("ann", True), ("cat", False)]
        for share, taken in (((1, 2), True), ((1, 1000), True), ((501, 1000), False), ((1, 1), False)):
            self.assertEqual(holders.is_taken(1, votes, share), taken)
        everybody = [(name, True) for name in ("ann", "bob", "cat")]
        self.assertTrue(holders.is_taken(1, everybody, ONE))

    def test_wrong_shares(self):
        holders = voters()
        for share in ((0, 1), (-1, 2), (3, 2), (1001, 1000)):
            self.assertEqual(error_of(holders.is_taken, 1, [("ann", True)], share), (InvalidShare, {}))
            self.assertEqual(error_of(holders.is_taken, 7, [("gone", True)], share), (InvalidShare, {}))

    def test_without_a_yes(self):
        holders = voters()
        for votes in ([], [("ann", False)], [("deep", True)]):
            self.assertFalse(holders.is_taken(1, votes, (1, 1000000)))
        # All units are the issuer's: the sum is 0, and 0 is no yes.
        alone = Holders("state", 5)
        alone.open_account("ann")
        alone.note(0)
        self.assertEqual(alone.tally(0, [("ann", True)]), (0, 0, 0))
        self.assertFalse(alone.is_taken(0, [("ann", True)], ONE))

    def test_one_unit_suffices(self):
        holders = Holders("state", 3)
        for name in ("ann", "bob"):
            holders.open_account(name)
        holders.move("state", "ann", 1)
        holders.move("state", "bob", 2)
        holders.note(0)
        self.assertTrue(holders.is_taken(0, [("ann", True), ("bob", False)], (1, 3)))
        self.assertFalse(holders.is_taken(0, [("ann", True), ("bob", False)], (101, 300)))
        self.assertFalse(holders.is_taken(0, [("bob", False)], (1, 3)))

    def test_lesser_shares_and_further_yeses(self):
        holders = voters()
        shares = [(1, 7), (1, 6), (1, 3), (1, 2), (2, 3), (5, 6), (1, 1)]
        for choices in itertools.product([True, False], repeat=3):
            votes = list(zip(["ann", "bob", "cat"], choices))
            taken = [holders.is_taken(1, votes, share) for share in shares]
            self.assertEqual(taken, sorted(taken, reverse=True))
            for at in range(3):
                better = [(name, choice or at == k) for k, (name, choice) in enumerate(votes)]
                for share, before in zip(shares, taken):
                    self.assertTrue(holders.is_taken(1, better, share) or not before)

    def test_arguments_stay(self):
        votes = [("ann", True), ("bob", False)]
        voters().is_taken(1, votes, ONE)
        self.assertEqual(votes, [("ann", True), ("bob", False)])


if __name__ == "__main__":
    unittest.main()
