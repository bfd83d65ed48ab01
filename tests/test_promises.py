"""Tests of consol.promises (points 53 and 54)."""

import copy
import random
import unittest

from consol.errors import MissingFact, MissingRate, UnknownLet
from consol.evaluate import value
from consol.promises import Follower, age, is_kept
from consol.texts import Bond, read_bond
from helping import error_of

ZERO = (0, 1)
ONE = (1, 1)
ON = ("equal", ("fact", "on"), ("number", ONE))
GONE = ("equal", ("fact", "gone"), ("number", ONE))


def bits(text):
    """The values of a fact that is 1 on the days with an x and 0 on the others."""
    return [ONE if letter == "x" else ZERO for letter in text]


def a_bond(*promises, first_day=0, lets=()):
    """A bond with promises by their formulas and graces."""
    named = [("abcdefgh"[at], formula, grace) for at, (formula, grace) in enumerate(promises)]
    return Bond(
        "x", "state", units=10, face=(100, 1), first_day=first_day, last_day=first_day + 365, months=6, count="thirty",
        adjust="none", record=0, rank=0, lets=list(lets), coupon=("percent", ONE), promises=named, cross=None, calls=[],
    )


def followed(bond, text):
    """A follower that was given the days of a text of bits."""
    follower = Follower(bond)
    for bit in bits(text):
        follower.step({"on": bit}, {})
    return follower


class Examples(unittest.TestCase):
    def test_example(self):
        text = "bond x by state\nunits 10 face 100\nfrom 1 to 366 every 12 months\n"
        text = text + "count thirty adjust none record 3 rank 0\ncoupon 5 percent\n"
        x = read_bond(text + "promise low must fact debt < 9 grace 1\ncall 100 at 102")
        debts = [(9, 1), (9, 1), (9, 1), (1, 1)]
        self.assertEqual([age(x, 0, day, {"debt": debts}, {}) for day in range(4)], [0, 1, 2, 0])
        follower = Follower(x)
        stages = []
        for debt in debts:
            follower.step({"debt": debt}, {})
            stages.append(follower.stage())
        self.assertEqual(stages, ["waiting", "grace", "default", "good"])


class Kept(unittest.TestCase):
    def test_value_of_the_formula(self):
        bond = a_bond((ON, 0), (("not", ON), 0), (("true",), 0))
        for index, kept in enumerate(["x.x", ".x.", "xxx"]):
            found = [is_kept(bond, index, day, {"on": bits("x.x")}, {}) for day in range(3)]
            self.assertEqual(found, [letter == "x" for letter in kept])

    def test_before_the_first_day_it_is_the_value_too(self):
        bond = a_bond((ON, 0), first_day=5)
        self.assertEqual([is_kept(bond, 0, day, {"on": bits("x.")}, {}) for day in range(2)], [True, False])

    def test_lets_timed_parts_and_rates(self):
        formula = ("and", ("name", "l"), ("less", ("rate", "y"), ("percent", (5, 1))))
        bond = a_bond((formula, 0), lets=[("l", ("ever", 2, ON))])
        rates = {"y": [(1, 100), (1, 100), (1, 100), (1, 20)]}
        facts = {"on": bits("x..x")}
        self.assertEqual([is_kept(bond, 0, day, facts, rates) for day in range(4)], [True, True, False, False])

    def test_errors(self):
        bond = a_bond((ON, 0), (("less", ("rate", "y"), ("number", ONE)), 0), (("name", "l"), 0))
        self.assertEqual(error_of(is_kept, bond, 0, 2, {"on": bits("xx")}, {}),
                         (MissingFact, {"name": "on", "day": 2}))
        self.assertEqual(error_of(is_kept, bond, 1, 0, {}, {}), (MissingRate, {"name": "y", "day": 0}))
        self.assertEqual(error_of(is_kept, bond, 2, 0, {}, {}), (UnknownLet, {"name": "l"}))


class Ages(unittest.TestCase):
    def ages(self, bond, text, days=None):
        facts = {"on": bits(text)}
        return [age(bond, 0, day, facts, {}) for day in range(len(text) if days is None else days)]

    def test_ages_from_day_to_day(self):
        self.assertEqual(self.ages(a_bond((ON, 0)), "..x...x."), [1, 2, 0, 1, 2, 3, 0, 1])

    def test_days_before_the_first_day_do_not_count(self):
        self.assertEqual(self.ages(a_bond((ON, 0), first_day=3), ".....x."), [0, 0, 0, 1, 2, 0, 1])

    def test_first_day(self):
        self.assertEqual(self.ages(a_bond((ON, 0), first_day=2), "..x"), [0, 0, 0])
        self.assertEqual(self.ages(a_bond((ON, 0), first_day=2), "xx."), [0, 0, 1])

    def test_long_behind(self):
        bond = a_bond((ON, 0), first_day=1)
        self.assertEqual(age(bond, 0, 1999, {"on": bits("." * 2000)}, {}), 1999)
        self.assertEqual(age(bond, 0, 1999, {"on": bits("." * 1500 + "x" + "." * 499)}, {}), 499)

    def test_index(self):
        bond = a_bond((ON, 0), (("not", ON), 0), (("false",), 0))
        facts = {"on": bits("x..")}
        self.assertEqual([age(bond, index, 2, facts, {}) for index in range(3)], [2, 0, 3])

    def test_the_latest_missing_day_is_named(self):
        bond = a_bond((("before", 2, ON), 0), first_day=1)
        self.assertEqual(error_of(age, bond, 0, 9, {"on": bits("....")}, {}), (MissingFact, {"name": "on", "day": 7}))
        self.assertEqual(error_of(age, bond, 0, 5, {}, {}), (MissingFact, {"name": "on", "day": 3}))

    def test_missing_days_that_are_reached(self):
        # Looked at from day 5 backwards, `a` is needed on the days on which it is not certain that `on` is 1.
        formula = ("or", ON, ("before", 3, ("equal", ("fact", "a"), ("number", ONE))))
        bond = a_bond((formula, 0))
        facts = {"on": bits("..x.."), "a": bits("....")}
        self.assertEqual(age(bond, 0, 4, facts, {}), 2)
        self.assertEqual(error_of(age, bond, 0, 4, {"on": bits("....."), "a": []}, {}),
                         (MissingFact, {"name": "a", "day": 1}))
        self.assertEqual(error_of(age, bond, 0, 4, {"on": bits("...."), "a": bits("....")}, {}),
                         (MissingFact, {"name": "on", "day": 4}))
        self.assertEqual(age(bond, 0, 2, facts, {}), 0)

    def test_missing_days_that_are_not_reached(self):
        first = ("not", ("ever", 2, ("equal", ("rate", "y"), ("number", ZERO))))
        bond = a_bond((("and", ON, first), 0))
        self.assertEqual(error_of(age, bond, 0, 3, {"on": bits("...x")}, {}), (MissingRate, {"name": "y", "day": 2}))
        self.assertEqual(age(bond, 0, 3, {"on": bits("...x")}, {"y": [ONE, ONE, ONE, ONE]}), 0)
        self.assertEqual(age(bond, 0, 2, {"on": bits("...")}, {}), 3)
        # Facts of days before the first day, and before the day on which the promise is kept, are not needed.
        self.assertEqual(age(a_bond((("before", 3, ON), 0), first_day=4), 0, 5, {"on": bits("x..")}, {}), 2)

    def test_before_the_first_day_nothing_is_needed(self):
        bond = a_bond((ON, 0), (("name", "l"), 0), first_day=5)
        self.assertEqual([age(bond, index, 4, {}, {}) for index in range(2)], [0, 0])
        self.assertEqual(error_of(age, bond, 1, 5, {}, {}), (UnknownLet, {"name": "l"}))

    def test_arguments_stay(self):
        bond = a_bond((ON, 0))
        facts = {"on": bits("..")}
        before = copy.deepcopy((vars(bond), facts))
        age(bond, 0, 1, facts, {})
        self.assertEqual((vars(bond), facts), before)


class Following(unittest.TestCase):
    def test_graces(self):
        text = "x....x."
        for grace, failing in ((0, ".xxxx.x"), (1, "..xxx.."), (3, "....x.."), (4, "......."), (400, ".......")):
            with self.subTest(grace):
                follower = Follower(a_bond((ON, grace)))
                found = ""
                for bit in bits(text):
                    follower.step({"on": bit}, {})
                    found = found + ("x" if follower.failed() == [0] else ".")
                    self.assertEqual(follower.stage() == "default", follower.failed() != [])
                self.assertEqual(found, failing)

    def test_a_failure_ends_with_the_breach(self):
        self.assertEqual(followed(a_bond((ON, 0)), ".").stage(), "default")
        self.assertEqual(followed(a_bond((ON, 0)), ".x").stage(), "good")
        self.assertEqual(followed(a_bond((ON, 1)), "..x.").stage(), "grace")

    def test_before_any_day(self):
        for first_day in (0, 3):
            follower = Follower(a_bond((ON, 0), (ON, 0), first_day=first_day))
            self.assertEqual((follower.ages(), follower.failed(), follower.stage()), ([0, 0], [], "waiting"))

    def test_before_the_first_day(self):
        follower = followed(a_bond((ON, 0), (("not", ON), 0), first_day=3), "...")
        self.assertEqual((follower.ages(), follower.failed(), follower.stage()), ([0, 0], [], "waiting"))
        follower.step({"on": ZERO}, {})
        self.assertEqual((follower.ages(), follower.failed(), follower.stage()), ([1, 0], [0], "default"))

    def test_no_promises(self):
        bond = a_bond(first_day=1)
        self.assertEqual([followed(bond, "x" * days).stage() for days in range(4)],
                         ["waiting", "waiting", "good", "good"])
        self.assertEqual((followed(bond, "xx").ages(), followed(bond, "xx").failed()), ([], []))

    def test_several_promises(self):
        bond = a_bond((("not", ON), 0), (ON, 1), (("false",), 2), (("true",), 0))
        follower = followed(bond, "...")
        self.assertEqual((follower.ages(), follower.failed(), follower.stage()), ([0, 3, 3, 0], [1, 2], "default"))

    def test_days_before_the_first_day_are_watched(self):
        bond = a_bond((("ever", 3, ON), 0), first_day=2)
        self.assertEqual([followed(bond, text).ages() for text in ("x..", ".x..", "x...", "...")], [[0], [0], [1], [1]])

    def test_missing_on_days_before_the_first_day(self):
        bond = a_bond((ON, 0), first_day=2)
        self.assertEqual(error_of(Follower(bond).step, {}, {}), (MissingFact, {"name": "on", "day": 0}))

    def test_rates(self):
        follower = Follower(a_bond((("less", ("rate", "y"), ("percent", (5, 1))), 0)))
        self.assertEqual(error_of(follower.step, {}, {}), (MissingRate, {"name": "y", "day": 0}))
        follower.step({}, {"y": (1, 100)})
        self.assertEqual(follower.stage(), "good")
        follower.step({}, {"y": (1, 20)})
        self.assertEqual(follower.stage(), "default")

    def test_the_same_day_again(self):
        follower = followed(a_bond((("always", 2, ON), 1)), "x.")
        self.assertEqual(error_of(follower.step, {}, {}), (MissingFact, {"name": "on", "day": 2}))
        self.assertEqual(error_of(follower.step, {"off": ONE}, {}), (MissingFact, {"name": "on", "day": 2}))
        self.assertEqual((follower.ages(), follower.stage()), ([1], "grace"))
        follower.step({"on": ONE}, {})
        self.assertEqual((follower.ages(), follower.stage()), ([2], "default"))
        follower.step({"on": ONE}, {})
        self.assertEqual((follower.ages(), follower.stage()), ([0], "good"))

    def test_the_second_promise_has_something_missing(self):
        # The first one looks two days back: it must not have seen the day twice.
        bond = a_bond((("before", 2, ON), 9), (("not", GONE), 9))
        follower = Follower(bond)
        follower.step({"on": ONE, "gone": ZERO}, {})
        self.assertEqual(error_of(follower.step, {"on": ZERO}, {}), (MissingFact, {"name": "gone", "day": 1}))
        self.assertEqual(follower.ages(), [1, 0])
        follower.step({"on": ZERO, "gone": ONE}, {})
        self.assertEqual(follower.ages(), [2, 1])
        follower.step({"on": ZERO, "gone": ONE}, {})
        self.assertEqual(follower.ages(), [0, 2])
        follower.step({"on": ZERO, "gone": ZERO}, {})
        self.assertEqual(follower.ages(), [1, 0])

    def test_the_first_missing_promise_is_named(self):
        bond = a_bond((("true",), 0), (("less", ("rate", "y"), ("number", ONE)), 0), (GONE, 0))
        self.assertEqual(error_of(Follower(bond).step, {}, {}), (MissingRate, {"name": "y", "day": 0}))
        self.assertEqual(error_of(Follower(bond).step, {}, {"y": ONE}), (MissingFact, {"name": "gone", "day": 0}))

    def test_unknown_lets(self):
        bond = a_bond((("name", "k"), 0), (("name", "m"), 0), lets=[("k", ("true",))])
        self.assertEqual(error_of(Follower, bond), (UnknownLet, {"name": "m"}))
        bond = a_bond((("name", "n"), 0), (("name", "m"), 0))
        self.assertEqual(error_of(Follower, bond), (UnknownLet, {"name": "n"}))

    def test_lists_are_new(self):
        follower = followed(a_bond((ON, 0), (ON, 5)), "..")
        follower.ages().append(7)
        follower.failed().append(7)
        self.assertEqual((follower.ages(), follower.failed()), ([2, 2], [0]))

    def test_followers_are_of_their_own(self):
        bond = a_bond((ON, 0))
        first = followed(bond, "..")
        second = followed(bond, "x")
        self.assertEqual((first.ages(), second.ages()), ([2], [0]))


class Agreement(unittest.TestCase):
    def formula(self, chance, depth):
        if depth == 0 or chance.random() < 0.2:
            return chance.choice([ON, ("not", ON), GONE, ("true",), ("false",)])
        word = chance.choice(["and", "or", "not", "ever", "always", "before"])
        inner = [self.formula(chance, depth - 1) for _ in range(2)]
        if word == "not":
            return (word, inner[0])
        if word in ("and", "or"):
            return (word, *inner)
        return (word, chance.randint(1, 4), inner[0])

    def test_a_follower_tells_the_ages(self):
        chance = random.Random(53)
        for _ in range(120):
            promises = [(self.formula(chance, 3), chance.randint(0, 3)) for _ in range(chance.randint(0, 3))]
            bond = a_bond(*promises, first_day=chance.randint(0, 6))
            facts = {name: bits(chance.choice("x.") for _ in range(16)) for name in ("on", "gone")}
            follower = Follower(bond)
            for day in range(16):
                follower.step({name: facts[name][day] for name in facts}, {})
                told = []
                for formula, _ in promises:
                    count = 0
                    while day - count >= bond.first_day and not value(formula, [], day - count, facts, {}):
                        count = count + 1
                    told.append(count)
                self.assertEqual(follower.ages(), told)
                self.assertEqual([age(bond, index, day, facts, {}) for index in range(len(promises))], told)
                failed = [at for at, (_, grace) in enumerate(promises) if told[at] > grace]
                self.assertEqual(follower.failed(), failed)
                stage = "default" if failed else "grace" if any(told) else "good"
                self.assertEqual(follower.stage(), "waiting" if day < bond.first_day else stage)


if __name__ == "__main__":
    unittest.main()
