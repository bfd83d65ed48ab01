"""Tests of consol.kinds (points 28 and 29)."""

import itertools
import random
import unittest

from consol.kinds import first_misfit, kind_of
from consol.texts import Bond

TRUE = ("true",)
COUNT = ("number", (2, 1))
MONEY = ("money", (5, 1))
RATE = ("percent", (3, 1))
NOTHING = ("fact", "untold")
FACTS = {"income": "money", "base": "rate", "many": "count"}
PARTS = {"count": COUNT, "money": MONEY, "rate": RATE, "truth": TRUE, None: NOTHING}
PRODUCTS = {
    ("count", "count"): "count", ("count", "money"): "money", ("money", "count"): "money", ("count", "rate"): "rate",
    ("rate", "count"): "rate", ("rate", "money"): "money", ("money", "rate"): "money", ("rate", "rate"): "rate",
}


def a_bond(coupon=RATE, lets=(), promises=()):
    return Bond(
        "x", "state", units=10, face=(100, 1), first_day=0, last_day=365, months=6, count="thirty", adjust="none",
        record=0, rank=0, lets=list(lets), coupon=coupon,
        promises=[("p" + "abcdefgh"[at], formula, 0) for at, formula in enumerate(promises)], cross=None, calls=[],
    )


def told(expression, facts, lets):
    """The kind of an expression and (), or None and the path of the first misfit in it, by the document's words."""
    word = expression[0]
    first = 2 if word in ("ever", "always", "before") else 1
    kinds = []
    if word not in ("number", "money", "percent", "fact", "rate", "name", "true", "false"):
        for at in range(first, len(expression)):
            kind, path = told(expression[at], facts, lets)
            if kind is None:
                return None, (at, *path)
            kinds.append(kind)
    kind = None
    if word in ("number", "money", "percent", "rate", "true", "false"):
        kind = {"number": "count", "percent": "rate", "true": "truth", "false": "truth"}.get(word, word)
    elif word == "fact":
        kind = facts.get(expression[1])
    elif word == "name":
        kind = lets.get(expression[1])
    elif word == "multiply":
        kind = PRODUCTS.get(tuple(kinds))
    elif word == "if":
        if kinds[0] == "truth" and kinds[1] == kinds[2]:
            kind = kinds[1]
    elif word in ("not", "and", "or", "ever", "always", "before"):
        if set(kinds) == {"truth"}:
            kind = "truth"
    elif kinds[0] == kinds[1] != "truth":
        kind = kinds[0] if word in ("add", "subtract", "min", "max") else "truth"
    return kind, ()


def some_expression(chance, depth, lets, wanted=None):
    """An expression of any form; mostly of the wanted kind, so that large ones fit now and then."""
    kind = wanted or chance.choice(["count", "money", "rate", "truth"])
    if chance.random() < 0.03:
        kind = chance.choice(["count", "money", "rate", "truth"])
    plain = {
        "count": [COUNT, ("fact", "many")], "money": [MONEY, ("fact", "income")],
        "rate": [RATE, ("rate", "y"), ("fact", "base")], "truth": [TRUE, ("false",)],
    }[kind]
    if depth == 0 or chance.random() < 0.1:
        return chance.choice(plain + [("name", name) for name in lets])

    def part(wish):
        return some_expression(chance, depth - 1, lets, wish)

    form = chance.randint(0, 3)
    if form == 0:
        return ("if", part("truth"), part(kind), part(kind))
    if kind == "truth":
        if form == 1:
            other = chance.choice(["count", "money", "rate"])
            return (chance.choice(["less", "atmost", "equal"]), part(other), part(other))
        if form == 2:
            return (chance.choice(["ever", "always", "before"]), chance.randint(1, 400), part("truth"))
        return chance.choice([("not", part("truth")), ("and", part("truth"), part("truth")),
                              ("or", part("truth"), part("truth"))])
    if form == 1:
        pair = chance.choice([pair for pair, product in PRODUCTS.items() if product == kind])
        return ("multiply", part(pair[0]), part(pair[1]))
    return (chance.choice(["add", "subtract", "min", "max"]), part(kind), part(kind))


class KindOf(unittest.TestCase):
    def check(self, expression, kind, lets=()):
        self.assertEqual(kind_of(expression, FACTS, list(lets)), kind)

    def test_examples(self):
        expression = ("multiply", ("percent", (3, 1)), ("fact", "income"))
        self.assertEqual(kind_of(expression, {"income": "money"}, []), "money")
        self.assertIsNone(kind_of(("add", ("percent", (3, 1)), ("number", (1, 1))), {}, []))

    def test_plain_ones(self):
        self.check(("number", (0, 1)), "count")
        self.check(("money", (7, 3)), "money")
        self.check(("percent", (7, 3)), "rate")
        self.check(("rate", "y"), "rate")
        self.check(("rate", "income"), "rate")
        self.check(("true",), "truth")
        self.check(("false",), "truth")

    def test_facts(self):
        self.check(("fact", "income"), "money")
        self.check(("fact", "base"), "rate")
        self.check(("fact", "many"), "count")
        self.check(("fact", "untold"), None)
        self.assertIsNone(kind_of(("fact", "income"), {}, []))

    def test_two_parts_of_one_kind(self):
        for word in ("add", "subtract", "min", "max"):
            for first, second in itertools.product(PARTS, PARTS):
                with self.subTest(word=word, first=first, second=second):
                    kind = first if first == second and first in ("count", "money", "rate") else None
                    self.check((word, PARTS[first], PARTS[second]), kind)

    def test_products(self):
        for first, second in itertools.product(PARTS, PARTS):
            with self.subTest(first=first, second=second):
                self.check(("multiply", PARTS[first], PARTS[second]), PRODUCTS.get((first, second)))

    def test_comparisons(self):
        for word in ("less", "atmost", "equal"):
            for first, second in itertools.product(PARTS, PARTS):
                with self.subTest(word=word, first=first, second=second):
                    kind = "truth" if first == second and first in ("count", "money", "rate") else None
                    self.check((word, PARTS[first], PARTS[second]), kind)

    def test_truths(self):
        for first in PARTS:
            kind = "truth" if first == "truth" else None
            self.check(("not", PARTS[first]), kind)
            for word in ("ever", "always", "before"):
                self.check((word, 1, PARTS[first]), kind)
                self.check((word, 400, PARTS[first]), kind)
            for second in PARTS:
                for word in ("and", "or"):
                    both = "truth" if first == second == "truth" else None
                    self.check((word, PARTS[first], PARTS[second]), both)

    def test_if(self):
        for first, second, third in itertools.product(PARTS, PARTS, PARTS):
            with self.subTest(first=first, second=second, third=third):
                kind = second if first == "truth" and second == third else None
                self.check(("if", PARTS[first], PARTS[second], PARTS[third]), kind)

    def test_a_part_that_does_not_fit(self):
        bad = ("add", COUNT, MONEY)
        self.check(("multiply", COUNT, bad), None)
        self.check(("not", ("less", bad, MONEY)), None)
        self.check(("if", TRUE, MONEY, ("add", bad, MONEY)), None)
        self.check(("and", TRUE, ("ever", 3, ("equal", COUNT, RATE))), None)

    def test_lets(self):
        lets = [
            ("a", ("fact", "income")), ("b", ("multiply", ("name", "a"), COUNT)), ("c", ("less", ("name", "b"), MONEY)),
            ("d", ("if", ("name", "c"), RATE, ("rate", "y"))),
        ]
        self.check(("name", "a"), "money", lets)
        self.check(("name", "b"), "money", lets)
        self.check(("name", "c"), "truth", lets)
        self.check(("name", "d"), "rate", lets)
        self.check(("multiply", ("name", "d"), ("name", "b")), "money", lets)
        self.check(("add", ("name", "d"), ("name", "b")), None, lets)

    def test_a_let_that_does_not_fit_matters_only_where_it_is_used(self):
        lets = [("a", ("fact", "untold")), ("b", ("add", ("name", "a"), MONEY)), ("c", COUNT)]
        self.check(("name", "c"), "count", lets)
        self.check(("name", "a"), None, lets)
        self.check(("name", "b"), None, lets)
        self.check(("if", TRUE, ("name", "c"), ("name", "b")), None, lets)

    def test_a_let_and_a_fact_of_one_name(self):
        self.check(("name", "income"), "count", [("income", COUNT)])
        self.check(("fact", "income"), "money", [("income", COUNT)])

    def test_deep_ones(self):
        deep = MONEY
        for _ in range(3000):
            deep = ("add", deep, MONEY)
        self.check(deep, "money")
        self.check(("less", deep, MONEY), "truth")
        self.check(("less", deep, COUNT), None)

    def test_lets_that_double(self):
        lets = [("a", COUNT)]
        for before, name in zip("abcdefghijklmnopqrstuvwxy", "bcdefghijklmnopqrstuvwxyz"):
            lets.append((name, ("add", ("name", before), ("name", before))))
        self.check(("name", "z"), "count", lets)

    def test_arguments_stay(self):
        facts = {"income": "money"}
        lets = [("a", COUNT)]
        kind_of(("add", ("name", "a"), ("fact", "other")), facts, lets)
        self.assertEqual((facts, lets), ({"income": "money"}, [("a", COUNT)]))

    def test_many(self):
        chance = random.Random(28)
        fitting = 0
        for _ in range(1500):
            lets = []
            known = {}
            for name in "abc"[:chance.randint(0, 3)]:
                lets.append((name, some_expression(chance, 2, list(known))))
                known[name] = told(lets[-1][1], FACTS, known)[0]
            expression = some_expression(chance, chance.randint(0, 4), list(known))
            kind = told(expression, FACTS, known)[0]
            self.assertEqual(kind_of(expression, FACTS, lets), kind, (expression, lets))
            fitting += kind is not None
        self.assertTrue(300 < fitting < 1200, fitting)


class FirstMisfit(unittest.TestCase):
    def check(self, misfit, **parts):
        self.assertEqual(first_misfit(a_bond(**parts), FACTS), misfit)

    def test_none(self):
        self.check(None)
        self.check(None, coupon=("rate", "y"))
        self.check(None, coupon=("fact", "base"), promises=[TRUE, ("ever", 3, ("less", MONEY, ("fact", "income")))])
        self.check(None, lets=[("a", MONEY), ("b", TRUE), ("c", COUNT), ("d", RATE)])
        self.check(None, lets=[("a", TRUE), ("b", RATE)], coupon=("name", "b"), promises=[("name", "a")])

    def test_coupons_of_another_kind(self):
        for coupon in (COUNT, MONEY, TRUE, ("fact", "income"), ("add", COUNT, COUNT), ("less", RATE, RATE), NOTHING):
            self.check((("coupon",), ()), coupon=coupon)

    def test_promises_of_another_kind(self):
        for formula in (COUNT, MONEY, RATE, ("if", TRUE, RATE, RATE), ("max", MONEY, MONEY), NOTHING):
            self.check((("promise", 0), ()), promises=[formula])
            self.check((("promise", 2), ()), promises=[TRUE, TRUE, formula, COUNT])

    def test_lets_come_first(self):
        bad = ("add", COUNT, MONEY)
        self.check((("let", 0), ()), lets=[("a", bad)], coupon=bad, promises=[bad])
        self.check((("let", 1), ()), lets=[("a", MONEY), ("b", bad), ("c", bad)], coupon=bad, promises=[bad])
        self.check((("coupon",), ()), lets=[("a", MONEY)], coupon=bad, promises=[bad])
        self.check((("promise", 1), ()), lets=[("a", MONEY)], promises=[TRUE, bad, bad])

    def test_a_let_that_no_one_uses(self):
        self.check((("let", 0), ()), lets=[("a", NOTHING)])
        self.check((("let", 0), (1,)), lets=[("a", ("add", NOTHING, MONEY))])

    def test_lets_that_use_lets(self):
        lets = [("a", MONEY), ("b", ("add", ("name", "a"), MONEY)), ("c", ("add", ("name", "b"), COUNT))]
        self.check((("let", 2), ()), lets=lets)
        self.check(None, lets=lets[:2], coupon=("multiply", RATE, RATE), promises=[("less", ("name", "b"), MONEY)])
        self.check((("coupon",), ()), lets=lets[:2], coupon=("multiply", RATE, ("name", "b")))
        self.check((("promise", 0), ()), lets=lets[:2], promises=[("name", "b")])

    def test_the_parts_come_before_an_expression(self):
        bad = ("add", COUNT, MONEY)
        self.check((("coupon",), (1,)), coupon=("add", bad, bad))
        self.check((("coupon",), (2,)), coupon=("add", RATE, bad))
        self.check((("coupon",), (2, 1)), coupon=("add", RATE, ("multiply", bad, bad)))
        self.check((("coupon",), (1,)), coupon=("if", NOTHING, bad, bad))
        self.check((("coupon",), (2,)), coupon=("add", TRUE, bad))
        self.check((("coupon",), ()), coupon=("add", TRUE, RATE))

    def test_paths_in_every_form(self):
        bad = ("not", COUNT)
        for word in ("add", "subtract", "multiply", "min", "max", "less", "atmost", "equal"):
            for other in (COUNT, MONEY, RATE):
                self.check((("promise", 0), (1,)), promises=[(word, bad, other)])
                self.check((("promise", 0), (2,)), promises=[(word, other, bad)])
        for word in ("and", "or"):
            self.check((("promise", 0), (1,)), promises=[(word, bad, TRUE)])
            self.check((("promise", 0), (2,)), promises=[(word, TRUE, bad)])
        for word in ("ever", "always", "before"):
            self.check((("promise", 0), (2,)), promises=[(word, 7, bad)])
            self.check((("promise", 0), ()), promises=[(word, 7, COUNT)])
        self.check((("promise", 0), (1,)), promises=[("not", bad)])
        self.check((("promise", 0), (1,)), promises=[("if", bad, TRUE, TRUE)])
        self.check((("promise", 0), (2,)), promises=[("if", TRUE, bad, TRUE)])
        self.check((("promise", 0), (3,)), promises=[("if", TRUE, TRUE, bad)])
        self.check((("promise", 0), (1, 2, 2, 1)), promises=[("not", ("and", TRUE, ("ever", 2, ("not", NOTHING))))])

    def test_a_fact_of_no_told_kind(self):
        self.check((("coupon",), (2, 1)), coupon=("add", RATE, ("multiply", ("fact", "other"), RATE)))
        self.assertEqual(first_misfit(a_bond(coupon=("fact", "base")), {}), (("coupon",), ()))

    def test_deep_ones(self):
        deep = MONEY
        for _ in range(2500):
            deep = ("add", deep, RATE)
        self.check((("coupon",), (1,) * 2499), coupon=deep)
        deep = RATE
        for _ in range(2500):
            deep = ("add", deep, RATE)
        self.check(None, coupon=deep)
        self.check((("promise", 0), ()), promises=[deep])

    def test_arguments_stay(self):
        bond = a_bond(lets=[("a", COUNT)], coupon=("name", "a"), promises=[COUNT])
        facts = {"income": "money"}
        first_misfit(bond, facts)
        self.assertEqual((bond.lets, bond.coupon, facts), ([("a", COUNT)], ("name", "a"), {"income": "money"}))

    def test_many(self):
        chance = random.Random(29)
        places = {}
        for _ in range(3000):
            lets = []
            known = {}
            misfit = None
            for at, name in enumerate("abc"[:chance.randint(0, 3)]):
                lets.append((name, some_expression(chance, 2, list(known))))
                known[name], path = told(lets[-1][1], FACTS, known)
                if known[name] is None and misfit is None:
                    misfit = (("let", at), path)
            coupon = some_expression(chance, chance.randint(0, 3), list(known), "rate")
            promises = [some_expression(chance, 2, list(known), "truth") for _ in range(chance.randint(0, 3))]
            due = [(("coupon",), coupon, "rate")]
            due += [(("promise", at), formula, "truth") for at, formula in enumerate(promises)]
            for part, formula, wanted in due:
                kind, path = told(formula, FACTS, known)
                if misfit is None and kind != wanted:
                    misfit = (part, path)
            bond = a_bond(coupon=coupon, lets=lets, promises=promises)
            self.assertEqual(first_misfit(bond, FACTS), misfit)
            place = misfit and misfit[0][0]
            places[place] = places.get(place, 0) + 1
        self.assertTrue(min(places[place] for place in (None, "let", "coupon", "promise")) > 100, places)


if __name__ == "__main__":
    unittest.main()
