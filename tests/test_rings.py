"""Tests of consol.rings (points 35 and 37 to 39)."""

import copy
import itertools
import random
import unittest
from fractions import Fraction

from consol.errors import (
    ConsolError, DuplicateBond, MissingFact, MissingRate, NoSingleRate, NotStraight, UnknownBond, UnknownLet,
)
from consol.evaluate import value
from consol.quoting import groups, is_ring
from consol.rings import form_of, rates_of_day, ring_rates, ring_system
from consol.systems import is_kernel, kernel
from consol.texts import Bond, read_bond

ZERO = (0, 1)
ONE = (1, 1)
TRUE = ("true",)
FALSE = ("false",)
X = ("rate", "x")
Y = ("rate", "y")
Z = ("rate", "z")
HEAD = "\nunits 10 face 100\nfrom 0 to 365 every 6 months\ncount thirty adjust none record 0 rank 0\n"


def number(p, q=1):
    return ("number", (p, q))


def percent(p, q=1):
    return ("percent", (p, q))


def a_bond(name, coupon, *lets):
    """A bond by its name and the texts of its lets and its coupon."""
    lines = "".join(f"let {let}\n" for let in lets)
    return read_bond(f"bond {name} by state{HEAD}{lines}coupon {coupon}")


def a_plain_bond(name, coupon, lets=()):
    return Bond(
        name, "state", units=10, face=(100, 1), first_day=0, last_day=365, months=6, count="thirty", adjust="none",
        record=0, rank=0, lets=list(lets), coupon=coupon, promises=[], cross=None, calls=[],
    )


class NotStraightHere(Exception):
    pass


def told_value(expression, lets, day, facts, rates, ring, today):
    """The value of a truth or a number; NotStraightHere if it needs a rate of the ring on the day."""
    word = expression[0]

    def part(at, on=day):
        return told_value(expression[at], lets, on, facts, rates, ring, today)

    if word == "rate" and expression[1] in ring and day == today:
        raise NotStraightHere()
    if word in ("fact", "rate"):
        return Fraction(*(facts if word == "fact" else rates)[expression[1]][day])
    if word == "name":
        return told_value(lets[expression[1]], lets, day, facts, rates, ring, today)
    if word in ("number", "money", "percent"):
        return Fraction(*expression[1]) / (100 if word == "percent" else 1)
    if word in ("true", "false"):
        return word == "true"
    if word in ("ever", "always"):
        for on in range(max(0, day - expression[1] + 1), day + 1):
            if part(2, on) == (word == "ever"):
                return word == "ever"
        return word == "always"
    if word == "before":
        return day >= expression[1] and part(2, day - expression[1])
    if word in ("not", "and", "or", "if"):
        first = part(1)
        if word == "if":
            return part(2) if first else part(3)
        if word == "not":
            return not first
        return part(2) if first == (word == "and") else first
    first, second = part(1), part(2)
    return {
        "add": first + second, "subtract": first - second, "multiply": first * second, "min": min(first, second),
        "max": max(first, second), "less": first < second, "atmost": first <= second, "equal": first == second,
    }[word]


def told_form(expression, lets, day, facts, rates, ring):
    """The form by the document's words: a dict of factors, with the rest under None."""
    word = expression[0]

    def part(at):
        return told_form(expression[at], lets, day, facts, rates, ring)

    def times(form, factor):
        return {name: item * factor for name, item in form.items() if name is None or item * factor}

    if word == "rate" and expression[1] in ring:
        return {expression[1]: Fraction(1), None: Fraction(0)}
    if word == "name":
        return told_form(lets[expression[1]], lets, day, facts, rates, ring)
    if word == "if":
        return part(2) if told_value(expression[1], lets, day, facts, rates, ring, day) else part(3)
    if word not in ("add", "subtract", "multiply", "min", "max"):
        return {None: told_value(expression, lets, day, facts, rates, ring, day)}
    first, second = part(1), part(2)
    if word in ("add", "subtract"):
        second = times(second, 1 if word == "add" else -1)
        both = {name: first.get(name, 0) + second.get(name, 0) for name in {**first, **second}}
        return times(both, 1)
    if word == "multiply" and len(first) == 1:
        return times(second, first[None])
    if word == "multiply" and len(second) == 1:
        return times(first, second[None])
    if len(first) + len(second) > 2:
        raise NotStraightHere()
    return {None: (min if word == "min" else max)(first[None], second[None])}


def some_number(chance, depth, names):
    """An expression for a number, in which the rates of some bonds and the fact a occur."""
    if depth == 0 or chance.random() < 0.15:
        plain = [number(chance.randint(0, 2)), percent(chance.randint(0, 300)), ("fact", "a"), ("fact", "a")]
        return chance.choice(plain + [("rate", name) for name in names])

    def part():
        return some_number(chance, depth - 1, names)

    if chance.random() < 0.25:
        return ("if", some_truth(chance, depth - 1, names), part(), part())
    return (chance.choice(["add", "add", "subtract", "multiply", "multiply", "min", "max"]), part(), part())


def some_truth(chance, depth, names):
    if depth <= 0:
        other = chance.choice([("rate", chance.choice(names)), ("fact", "a"), ("fact", "a")])
        return chance.choice([TRUE, FALSE, ("less", other, number(1)), ("before", 1, ("less", other, number(1)))])
    word = chance.choice(["less", "not", "and", "or", "ever", "always", "before"])
    if word == "less":
        return (word, some_number(chance, depth - 1, names), some_number(chance, depth - 1, names))
    parts = [some_truth(chance, depth - 1, names) for _ in range(2)]
    if word in ("and", "or"):
        return (word, *parts)
    return (word, parts[0]) if word == "not" else (word, chance.randint(1, 3), parts[0])


class FormOf(unittest.TestCase):
    def check(self, expression, factors, rest=ZERO, day=0, lets=(), facts=None, rates=None, ring=("x", "y")):
        form = form_of(expression, list(lets), day, facts or {}, rates or {}, list(ring))
        self.assertEqual(form, (factors, rest))
        self.assertIsInstance(form, tuple)

    def crooked(self, expression, day=0, lets=(), facts=None, rates=None, ring=("x", "y")):
        self.assertIsNone(form_of(expression, list(lets), day, facts or {}, rates or {}, list(ring)))

    def test_plain_ones(self):
        self.check(X, {"x": ONE})
        self.check(Y, {"y": ONE})
        self.check(number(7, 2), {}, (7, 2))
        self.check(("money", (7, 2)), {}, (7, 2))
        self.check(percent(7), {}, (7, 100))
        self.check(("fact", "a"), {}, (-3, 2), facts={"a": [(-3, 2)]})
        self.check(("fact", "x"), {}, (5, 1), facts={"x": [(5, 1)]})
        self.check(Z, {}, (1, 8), rates={"z": [(1, 8)]})
        self.check(Z, {}, (1, 9), day=1, rates={"z": [(1, 8), (1, 9)]})

    def test_a_rate_of_the_ring_that_is_given_does_not_count(self):
        self.check(X, {"x": ONE}, rates={"x": [(1, 2)]})
        self.check(("multiply", X, number(3)), {"x": (3, 1)}, day=1, rates={"x": [(1, 2), (1, 3)]})

    def test_sums(self):
        self.check(("add", X, Y), {"x": ONE, "y": ONE})
        self.check(("add", X, X), {"x": (2, 1)})
        self.check(("add", ("add", X, percent(1)), ("add", Y, percent(2))), {"x": ONE, "y": ONE}, (3, 100))
        self.check(("subtract", X, Y), {"x": ONE, "y": (-1, 1)})
        self.check(("subtract", percent(1), Y), {"y": (-1, 1)}, (1, 100))
        self.check(("subtract", X, percent(1)), {"x": ONE}, (-1, 100))

    def test_factors_that_become_0(self):
        self.check(("subtract", X, X), {})
        self.check(("subtract", ("add", X, Y), X), {"y": ONE})
        self.check(("add", ("multiply", X, number(1, 2)), ("subtract", Y, ("multiply", number(1, 2), X))), {"y": ONE})
        self.check(("add", ("subtract", percent(1), X), X), {}, (1, 100))
        self.check(("multiply", number(0), X), {})
        self.check(("multiply", ("add", X, percent(1)), number(0)), {})
        self.check(("multiply", ("subtract", X, X), ("add", X, percent(1))), {})

    def test_products(self):
        self.check(("multiply", number(1, 2), X), {"x": (1, 2)})
        self.check(("multiply", X, number(1, 2)), {"x": (1, 2)})
        self.check(("multiply", ("add", X, percent(3)), percent(50)), {"x": (1, 2)}, (3, 200))
        self.check(("multiply", percent(50), ("subtract", percent(3), Y)), {"y": (-1, 2)}, (3, 200))
        self.check(("multiply", percent(50), number(3)), {}, (3, 2))
        self.check(("multiply", ("subtract", X, X), Y), {})
        self.check(("multiply", Y, ("add", number(2), ("subtract", X, X))), {"y": (2, 1)})

    def test_products_of_two_forms_with_factors(self):
        self.crooked(("multiply", X, Y))
        self.crooked(("multiply", X, X))
        self.crooked(("add", percent(1), ("multiply", ("add", X, percent(1)), ("subtract", percent(1), Y))))
        self.crooked(("multiply", number(0), ("multiply", X, Y)))
        self.crooked(("subtract", ("multiply", X, Y), ("multiply", X, Y)))
        self.check(("multiply", X, Z), {"x": (1, 8)}, rates={"z": [(1, 8)]})

    def test_min_and_max(self):
        self.check(("min", percent(1), percent(2)), {}, (1, 100))
        self.check(("max", percent(1), percent(2)), {}, (1, 50))
        self.check(("max", ("subtract", X, X), percent(2)), {}, (1, 50))
        self.check(("min", ("multiply", number(0), X), percent(2)), {})
        for word in ("min", "max"):
            for other in (percent(1), Y, X):
                self.crooked((word, X, other))
                self.crooked((word, other, X))
            self.crooked(("add", Y, (word, ("add", X, percent(1)), percent(9))))

    def test_min_and_max_of_a_rate_outside_of_the_ring(self):
        self.check(("min", Z, percent(2)), {}, (1, 100), rates={"z": [(1, 100)]})
        self.check(("max", percent(2), Z), {}, (1, 50), rates={"z": [(1, 100)]})

    def test_if(self):
        self.check(("if", TRUE, X, Y), {"x": ONE})
        self.check(("if", FALSE, X, Y), {"y": ONE})
        self.check(("if", ("less", ("fact", "a"), number(3)), X, percent(1)), {"x": ONE}, facts={"a": [(2, 1)]})
        self.check(("if", ("less", ("fact", "a"), number(3)), X, percent(1)), {}, (1, 100), facts={"a": [(3, 1)]})
        self.check(("if", ("less", Z, percent(1)), X, Y), {"x": ONE}, rates={"z": [ZERO]})

    def test_the_other_part_of_an_if_is_not_looked_at(self):
        self.check(("if", TRUE, X, ("multiply", X, X)), {"x": ONE})
        self.check(("if", FALSE, ("fact", "gone"), X), {"x": ONE})
        self.check(("if", FALSE, ("name", "gone"), X), {"x": ONE})
        self.crooked(("if", TRUE, ("multiply", X, X), X))

    def test_an_if_that_needs_a_rate_of_the_ring(self):
        low = ("less", X, percent(1))
        for truth in (low, ("not", low), ("and", TRUE, low), ("or", FALSE, low), ("ever", 1, low), ("always", 1, low),
                      ("and", ("not", low), FALSE), ("equal", ("multiply", number(0), Y), number(0)),
                      ("equal", ("subtract", X, X), number(0)), ("if", low, TRUE, TRUE),
                      ("less", ("if", TRUE, X, Z), X)):
            self.crooked(("if", truth, percent(1), percent(1)))
            self.crooked(("if", truth, percent(1), percent(1)), rates={"x": [ONE], "y": [ONE]})
            self.crooked(("add", Y, ("if", truth, X, percent(1))))

    def test_an_if_that_does_not_need_it(self):
        low = ("less", X, percent(1))
        for truth in (("or", TRUE, low), ("not", ("and", FALSE, low)), ("if", TRUE, TRUE, low),
                      ("not", ("before", 1, low)), ("if", ("and", FALSE, low), low, TRUE)):
            self.check(("if", truth, X, percent(1)), {"x": ONE})

    def test_rates_of_earlier_days(self):
        low = ("less", X, percent(2))
        rates = {"x": [(1, 100), (3, 100)]}
        self.check(("if", ("before", 1, low), X, Y), {"y": ONE}, day=2, rates=rates)
        self.check(("if", ("before", 2, low), X, Y), {"x": ONE}, day=2, rates=rates)
        self.check(("if", ("ever", 3, low), X, Y), {"x": ONE}, day=2, rates=rates)
        self.check(("if", ("always", 2, low), X, Y), {"y": ONE}, day=2, rates=rates)
        self.crooked(("if", ("ever", 2, low), X, Y), day=2, rates=rates)
        self.crooked(("if", ("always", 1, low), X, Y), day=2, rates=rates)
        self.crooked(("if", ("always", 3, ("less", X, percent(4))), X, Y), day=2, rates=rates)

    def test_lets(self):
        lets = [("u", ("multiply", X, number(2))), ("v", ("add", ("name", "u"), Y)), ("w", ("less", Y, percent(1)))]
        self.check(("name", "u"), {"x": (2, 1)}, lets=lets)
        self.check(("add", ("name", "v"), ("name", "u")), {"x": (4, 1), "y": ONE}, lets=lets)
        self.crooked(("multiply", ("name", "v"), ("name", "u")), lets=lets)
        self.crooked(("if", ("name", "w"), X, Y), lets=lets)
        self.check(("if", ("before", 1, ("name", "w")), X, percent(1)), {}, (1, 100), lets=lets)
        self.crooked(("max", ("name", "u"), percent(1)), lets=lets)

    def test_missing_ones(self):
        for expression, error, name, day in (
            (("add", X, ("fact", "f")), MissingFact, "f", 3), (("add", Z, ("fact", "f")), MissingRate, "z", 3),
            (("multiply", number(0), Z), MissingRate, "z", 3), (("add", X, ("name", "u")), UnknownLet, "u", None),
            (("if", ("less", Z, percent(1)), X, X), MissingRate, "z", 3),
            (("if", ("before", 2, ("less", Z, percent(1))), X, X), MissingRate, "z", 1),
            (("if", ("before", 2, ("less", X, percent(1))), X, X), MissingRate, "x", 1),
            (("if", ("ever", 4, ("less", Y, percent(1))), X, X), MissingRate, "y", 0),
            (("if", ("always", 2, ("less", ("fact", "f"), percent(1))), X, X), MissingFact, "f", 2),
        ):
            with self.assertRaises(error) as caught:
                form_of(expression, [], 3, {"f": [ONE]}, {"z": [ONE], "x": []}, ["x", "y"])
            self.assertEqual(caught.exception.name, name)
            if day is not None:
                self.assertEqual(caught.exception.day, day)

    def test_rings_of_none_and_of_one(self):
        self.check(("add", X, Y), {"x": ONE}, (1, 4), rates={"y": [(1, 4)]}, ring=["x"])
        self.check(("max", X, Y), {}, (1, 3), rates={"x": [(1, 3)], "y": [(1, 4)]}, ring=[])

    def test_deep_ones_and_lets_that_double(self):
        deep = X
        for _ in range(3000):
            deep = ("add", deep, percent(1))
        self.check(deep, {"x": ONE}, (30, 1))
        lets = [("a", ("add", X, ("if", TRUE, Y, X)))]
        for before, name in zip("abcdefghijklmnopqrstuvwxy", "bcdefghijklmnopqrstuvwxyz"):
            lets.append((name, ("add", ("name", before), ("name", before))))
        self.check(("name", "z"), {"x": (2 ** 25, 1), "y": (2 ** 25, 1)}, lets=lets)

    def test_many(self):
        chance = random.Random(37)
        straight = crooked = with_factors = 0
        for _ in range(3000):
            expression = some_number(chance, chance.randint(0, 4), "xyz")
            day = chance.randint(0, 3)
            facts = {"a": [(chance.randint(-2, 2), 1) for _ in range(day + 1)]}
            rates = {name: [(chance.randint(0, 2), 1) for _ in range(day + 1)] for name in "xyz"}
            ring = chance.choice(["x", "xy", "yx", "xyz", "z", ""])
            found = form_of(expression, [], day, facts, rates, list(ring))
            try:
                form = told_form(expression, {}, day, facts, rates, ring)
                rest = form.pop(None)
                self.assertEqual(found[1], rest.as_integer_ratio(), expression)
                self.assertEqual(found[0], {name: item.as_integer_ratio() for name, item in form.items()}, expression)
                straight += 1
                with_factors += form != {}
            except NotStraightHere:
                self.assertIsNone(found, expression)
                crooked += 1
        self.assertTrue(straight > 1000 and crooked > 300 and with_factors > 300, (straight, crooked, with_factors))


class RingSystem(unittest.TestCase):
    def test_examples(self):
        x = a_bond("x", "rate y + 1 percent")
        y = a_bond("y", "1/2 * rate x")
        self.assertEqual(ring_system([x, y], ["x", "y"], 0, {}, {}),
                         ([[(0, 1), (1, 1)], [(1, 2), (0, 1)]], [(1, 100), (0, 1)]))

    def test_the_order_of_the_ring_counts(self):
        bonds = [a_bond("x", "rate y + 1 percent"), a_bond("y", "1/2 * rate x - rate y"), a_bond("z", "2 percent")]
        for order in itertools.permutations(bonds):
            self.assertEqual(ring_system(list(order), ["y", "x"], 0, {}, {}),
                             ([[(-1, 1), (1, 2)], [(1, 1), (0, 1)]], [(0, 1), (1, 100)]))
            self.assertEqual(ring_system(list(order), ["z"], 0, {}, {}), ([[(0, 1)]], [(1, 50)]))

    def test_a_part_of_a_ring(self):
        x = a_bond("x", "rate y + 1 percent")
        self.assertEqual(ring_system([x], ["x"], 1, {}, {"y": [(1, 2), (1, 4)]}), ([[(0, 1)]], [(13, 50)]))

    def test_rates_of_the_ring_on_the_day_do_not_count(self):
        x = a_bond("x", "rate x * 1/2 + 1 percent")
        self.assertEqual(ring_system([x], ["x"], 0, {}, {"x": [(7, 1), (8, 1)]}), ([[(1, 2)]], [(1, 100)]))

    def test_not_straight(self):
        x = a_bond("x", "rate y + 1 percent")
        y = a_bond("y", "max(rate x, 1 percent)")
        z = a_bond("z", "rate x * rate y")
        for ring, name in ((["x", "y"], "y"), (["x", "z", "y"], "z"), (["z", "y", "x"], "z"), (["y", "x", "z"], "y")):
            with self.assertRaises(NotStraight) as caught:
                ring_system([x, y, z], ring, 0, {}, {})
            self.assertEqual(caught.exception.name, name)

    def test_missing_ones(self):
        x = a_bond("x", "rate y + fact a")
        y = a_bond("y", "rate x + rate gone")
        z = a_bond("z", "rate y + u", "u = if before 1 (rate x < 1 percent) then rate x else 1 percent")
        for bonds, day, error, name, on in (
            ([x, y], 0, MissingFact, "a", 0), ([y, x], 0, MissingRate, "gone", 0), ([z, y], 2, MissingRate, "x", 1),
        ):
            with self.assertRaises(error) as caught:
                ring_system(bonds, [bond.name for bond in bonds], day, {}, {})
            self.assertEqual((caught.exception.name, caught.exception.day), (name, on))
        with self.assertRaises(UnknownLet) as caught:
            ring_system([a_plain_bond("x", ("name", "u"))], ["x"], 0, {}, {})
        self.assertEqual(caught.exception.name, "u")


class RingRates(unittest.TestCase):
    def refuse(self, bonds, ring, weights, day=0, facts=None, rates=None):
        with self.assertRaises(NoSingleRate) as caught:
            ring_rates(bonds, ring, day, facts or {}, rates or {})
        self.assertEqual((caught.exception.ring, caught.exception.weights), (ring, weights))

    def test_examples(self):
        self.refuse([a_bond("w", "rate w + 1 percent")], ["w"], [ONE])

    def test_one_bond(self):
        x = a_bond("x", "1/2 * rate x + 1 percent")
        self.assertEqual(ring_rates([x], ["x"], 0, {}, {}), [(1, 50)])
        self.assertEqual(ring_rates([a_bond("x", "3 percent - rate x")], ["x"], 0, {}, {}), [(3, 200)])
        self.assertEqual(ring_rates([a_bond("x", "3 percent")], ["x"], 0, {}, {}), [(3, 100)])
        self.assertEqual(ring_rates([a_bond("x", "2 * rate x + 1 percent")], ["x"], 0, {}, {}), [(-1, 100)])

    def test_one_bond_without_a_single_rate(self):
        self.refuse([a_bond("x", "rate x")], ["x"], [ONE])
        self.refuse([a_bond("x", "2 * rate x - rate x + fact a")], ["x"], [ONE], facts={"a": [(1, 2)]})

    def test_several_bonds(self):
        bonds = [a_bond("x", "rate y + 1 percent"), a_bond("y", "1/2 * rate z"), a_bond("z", "rate x - 3 percent")]
        rates = {"x": (-1, 100), "y": (-1, 50), "z": (-1, 25)}
        for order, ring in itertools.product(itertools.permutations(bonds), itertools.permutations("xyz")):
            self.assertEqual(ring_rates(list(order), list(ring), 0, {}, {}), [rates[name] for name in ring])

    def test_several_bonds_without_single_rates(self):
        x, y = a_bond("x", "rate y + 1 percent"), a_bond("y", "rate x")
        self.refuse([x, y], ["x", "y"], [ONE, ONE])
        x, y = a_bond("x", "2 * rate y"), a_bond("y", "1/2 * rate x")
        self.refuse([y, x], ["x", "y"], [(2, 1), ONE])
        self.refuse([y, x], ["y", "x"], [(1, 2), ONE])
        z = a_bond("z", "rate z + rate x")
        self.refuse([x, y, z], ["x", "y", "z"], [ZERO, ZERO, ONE])
        self.refuse([x, y, z], ["z", "x", "y"], [ONE, ZERO, ZERO])
        z = a_bond("z", "rate x - 1/2 * rate z")
        self.refuse([x, y, z], ["x", "y", "z"], [(3, 2), (3, 4), ONE])

    def test_not_straight(self):
        bonds = [a_bond("x", "rate y"), a_bond("y", "min(rate x, 1 percent)")]
        with self.assertRaises(NotStraight) as caught:
            ring_rates(bonds, ["x", "y"], 0, {}, {})
        self.assertEqual(caught.exception.name, "y")

    def test_missing_ones(self):
        with self.assertRaises(MissingFact) as caught:
            ring_rates([a_bond("x", "rate x + fact a")], ["x"], 0, {"a": []}, {})
        self.assertEqual((caught.exception.name, caught.exception.day), ("a", 0))

    def test_it_may_change_from_day_to_day(self):
        bond = a_bond("x", "if fact a < 1 then rate x else 1/2 * rate x")
        facts = {"a": [ZERO, ONE]}
        self.refuse([bond], ["x"], [ONE], 0, facts)
        self.assertEqual(ring_rates([bond], ["x"], 1, facts, {"x": [ZERO]}), [ZERO])

    def test_a_long_ring(self):
        names = [first + second for first in "abcde" for second in "abcdefghij"]
        bonds = [a_bond(name, f"rate {other} + 1 percent") for name, other in zip(names, names[1:])]
        bonds.append(a_bond(names[-1], f"1/2 * rate {names[0]}"))
        rates = ring_rates(bonds, names, 0, {}, {})
        self.assertEqual(rates[0], Fraction(2 * (len(names) - 1), 100).as_integer_ratio())
        self.assertEqual(rates[-1], Fraction(len(names) - 1, 100).as_integer_ratio())


class RatesOfDay(unittest.TestCase):
    def test_example(self):
        x = a_bond("x", "rate y + 1 percent")
        y = a_bond("y", "1/2 * rate x")
        z = a_bond("z", "max(rate x, fact base)")
        for order in itertools.permutations([x, y, z]):
            self.assertEqual(rates_of_day(list(order), 0, {"base": [(3, 100)]}, {}),
                             {"x": (1, 50), "y": (1, 100), "z": (3, 100)})

    def test_no_bonds(self):
        self.assertEqual(rates_of_day([], 3, {}, {}), {})

    def test_groups_that_depend_on_each_other(self):
        bonds = [
            a_bond("a", "max(rate b, 1 percent) * 2"), a_bond("b", "rate c - rate b"), a_bond("c", "rate d + rate e"),
            a_bond("d", "1/2 * rate e + rate f"), a_bond("e", "1/2 * rate d"), a_bond("f", "fact base"),
        ]
        expected = {"f": (3, 100), "d": (4, 100), "e": (2, 100), "c": (6, 100), "b": (3, 100), "a": (6, 100)}
        expected = {name: Fraction(*rate).as_integer_ratio() for name, rate in expected.items()}
        for shift in range(6):
            order = bonds[shift:] + bonds[:shift]
            self.assertEqual(rates_of_day(order, 0, {"base": [(3, 100)]}, {}), expected)
            self.assertEqual(rates_of_day(order[::-1], 0, {"base": [(3, 100)]}, {}), expected)

    def test_a_later_day_without_rates_of_earlier_days(self):
        bonds = [a_bond("x", "rate y * 2"), a_bond("y", "rate z + 1 percent - rate y"), a_bond("z", "fact base")]
        facts = {"base": [ZERO] * 5 + [(3, 100)]}
        self.assertEqual(rates_of_day(bonds, 5, facts, {}), {"x": (1, 25), "y": (1, 50), "z": (3, 100)})

    def test_rates_of_earlier_days(self):
        bonds = [a_bond("x", "if before 1 (rate x < 2 percent) then rate x * 1/2 + 2 percent else 1 percent"),
                 a_bond("y", "if always 2 (rate x < 3 percent) then rate x else 0 percent")]
        rates = {"x": [], "y": []}
        for day in range(5):
            found = rates_of_day(bonds, day, {}, rates)
            for name in rates:
                rates[name].append(found[name])
        self.assertEqual(rates["x"], [(1, 100), (1, 25), (1, 100), (1, 25), (1, 100)])
        self.assertEqual(rates["y"], [(1, 100), ZERO, ZERO, ZERO, ZERO])

    def test_rates_of_the_day_and_later_ones_do_not_count(self):
        bonds = [a_bond("x", "rate y + 1 percent"), a_bond("y", "1/2 * rate x"), a_bond("z", "rate x + rate w"),
                 a_bond("w", "if before 1 (rate x < 1 percent) then 2 percent else 3 percent")]
        rates = {name: [ZERO, (9, 1), (9, 1)] for name in "xyzw"}
        expected = {"x": (1, 50), "y": (1, 100), "z": (1, 25), "w": (1, 50)}
        self.assertEqual(rates_of_day(bonds, 1, {}, rates), expected)
        self.assertEqual(rates_of_day(bonds, 1, {}, {name: [ZERO] for name in "xyzw"}), expected)

    def test_wrong_bonds(self):
        x, y = a_bond("x", "rate y"), a_bond("y", "max(rate y, fact gone)")
        for bonds, error, name in (
            ([x, y, y, x], DuplicateBond, "y"), ([x], UnknownBond, "y"),
            ([x, a_plain_bond("z", ("name", "u"))], UnknownLet, "u"), ([x, y], NotStraight, "y"),
        ):
            with self.assertRaises(error) as caught:
                rates_of_day(bonds, 0, {"gone": [ONE]}, {})
            self.assertEqual(caught.exception.name, name)

    def test_the_first_group_counts(self):
        fine = a_bond("f", "1 percent")
        single = a_bond("b", "rate b")
        crooked = a_bond("c", "rate c * rate c")
        missing = a_bond("d", "fact gone")
        behind = a_bond("a", "rate e")
        last = a_bond("e", "rate d")
        for order in itertools.permutations([fine, single, crooked, missing, behind, last]):
            with self.assertRaises(NoSingleRate) as caught:
                rates_of_day(list(order), 0, {}, {})
            self.assertEqual((caught.exception.ring, caught.exception.weights), (["b"], [ONE]))
        with self.assertRaises(NotStraight) as caught:
            rates_of_day([last, behind, missing, crooked, fine], 0, {}, {})
        self.assertEqual(caught.exception.name, "c")
        with self.assertRaises(MissingFact) as caught:
            rates_of_day([last, behind, missing, fine], 4, {"gone": [ONE]}, {})
        self.assertEqual((caught.exception.name, caught.exception.day), ("gone", 4))

    def test_a_missing_rate_of_an_earlier_day(self):
        x = a_bond("x", "if before 2 (rate y < 1 percent) then 1 percent else 2 percent")
        bonds = [x, a_bond("y", "1 percent")]
        with self.assertRaises(MissingRate) as caught:
            rates_of_day(bonds, 5, {}, {"y": [ONE, ONE]})
        self.assertEqual((caught.exception.name, caught.exception.day), ("y", 3))

    def test_arguments_stay(self):
        bonds = [a_bond("x", "rate y + 1 percent"), a_bond("y", "1/2 * rate x")]
        facts = {"a": [ONE]}
        rates = {"x": [ONE, ONE, ONE]}
        given = copy.deepcopy((facts, rates))
        found = rates_of_day(bonds, 1, facts, rates)
        found["x"] = None
        self.assertEqual((facts, rates), given)
        self.assertEqual(rates_of_day(bonds, 1, facts, rates), {"x": (1, 50), "y": (1, 100)})
        self.assertEqual([bond.name for bond in bonds], ["x", "y"])

    def test_many(self):
        chance = random.Random(39)
        results = {}
        for _ in range(600):
            names = "pqrst"[:chance.randint(1, 5)]
            bonds = []
            for name in names:
                lets = [("u", some_number(chance, 1, names))] if chance.random() < 0.5 else []
                coupon = some_number(chance, chance.randint(0, 3), names[:chance.randint(1, 5)])
                bonds.append(a_plain_bond(name, ("add", coupon, ("name", "u")) if lets else coupon, lets))
            day = chance.randint(0, 3)
            facts = {"a": [(chance.randint(-2, 2), 1) for _ in range(day + 1)]}
            past = {name: [(chance.randint(0, 2), 1) for _ in range(day)] for name in names}
            try:
                found = rates_of_day(bonds, day, facts, past)
            except ConsolError as error:
                found = None
                self.check_refusal(bonds, day, facts, past, error)
                results[type(error).__name__] = results.get(type(error).__name__, 0) + 1
            chance.shuffle(bonds)
            if found is not None:
                self.assertEqual(rates_of_day(bonds, day, facts, past), found)
                rates = {name: past[name] + [found[name]] for name in names}
                for bond in bonds:
                    self.assertEqual(value(bond.coupon, bond.lets, day, facts, rates), found[bond.name])
                rings = [group for group in groups(bonds) if is_ring(bonds, group)]
                results["ring" if rings else "none"] = results.get("ring" if rings else "none", 0) + 1
        self.assertTrue(min(results[word] for word in ("ring", "none", "NotStraight", "NoSingleRate")) > 15, results)

    def check_refusal(self, bonds, day, facts, past, error):
        """Checks the error for the first group for which anything is raised."""
        known = {name: list(row) for name, row in past.items()}
        table = {bond.name: bond for bond in bonds}
        for group in groups(bonds):
            members = [table[name] for name in group]
            try:
                found = ring_rates(members, group, day, facts, known)
            except ConsolError as other:
                self.assertEqual((type(other), vars(other)), (type(error), vars(error)))
                if isinstance(error, NoSingleRate):
                    factors = ring_system(members, group, day, facts, known)[0]
                    rows = [[Fraction(*item) for item in row] for row in factors]
                    rows = [[((at == k) - item).as_integer_ratio() for k, item in enumerate(row)]
                            for at, row in enumerate(rows)]
                    self.assertTrue(is_kernel(rows, error.weights))
                    self.assertEqual(kernel(rows, len(rows)), error.weights)
                return
            for name, rate in zip(group, found):
                known[name].append(rate)
        self.fail("an error was raised for no group")


if __name__ == "__main__":
    unittest.main()
