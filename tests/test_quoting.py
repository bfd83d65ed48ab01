"""Tests of consol.quoting (points 35 and 36)."""

import itertools
import random
import unittest

from consol.errors import DuplicateBond, UnknownBond, UnknownLet
from consol.quoting import groups, is_ring, quoted
from consol.texts import Bond, read_bond

TRUE = ("true",)
HEAD = "\nunits 10 face 100\nfrom 0 to 365 every 6 months\ncount thirty adjust none record 0 rank 0\n"


def a_bond(name, coupon=("percent", (1, 1)), lets=(), promises=()):
    return Bond(
        name, "state", units=10, face=(100, 1), first_day=0, last_day=365, months=6, count="thirty", adjust="none",
        record=0, rank=0, lets=list(lets), coupon=coupon, promises=list(promises), cross=None, calls=[],
    )


def rates(*names):
    """An expression with the rates of some bonds."""
    expression = ("percent", (1, 1))
    for name in names:
        expression = ("add", expression, ("rate", name))
    return expression


def bonds_of(words):
    """Bonds by words such as "x:yz": x quotes y and z."""
    return [a_bond(word[0], rates(*word[2:])) for word in words.split()]


class Quoted(unittest.TestCase):
    def test_example(self):
        self.assertEqual(quoted(read_bond("bond z by town" + HEAD + "coupon max(rate x, fact base)")), ["x"])

    def test_names(self):
        self.assertEqual(quoted(a_bond("x")), [])
        self.assertEqual(quoted(a_bond("x", rates("z", "y", "z"))), ["y", "z"])
        self.assertEqual(quoted(a_bond("x", rates("x"))), ["x"])
        self.assertEqual(quoted(a_bond("x", ("add", ("fact", "y"), ("rate", "w")))), ["w"])

    def test_every_place_of_a_coupon(self):
        choice = ("less", ("rate", "a"), ("rate", "b"))
        timed = ("ever", 3, ("not", ("equal", ("rate", "e"), ("percent", (1, 1)))))
        product = ("multiply", ("rate", "d"), ("number", (2, 1)))
        coupon = ("if", ("or", choice, timed), ("min", ("rate", "c"), ("percent", (1, 1))), product)
        self.assertEqual(quoted(a_bond("x", coupon)), ["a", "b", "c", "d", "e"])

    def test_what_is_never_needed_is_quoted(self):
        self.assertEqual(quoted(a_bond("x", ("if", TRUE, ("percent", (1, 1)), ("rate", "y")))), ["y"])

    def test_lets(self):
        lets = [("a", ("rate", "p")), ("b", ("add", ("name", "a"), ("rate", "q"))), ("c", ("rate", "r")),
                ("d", ("less", ("name", "b"), ("rate", "s")))]
        self.assertEqual(quoted(a_bond("x", ("name", "a"), lets)), ["p"])
        self.assertEqual(quoted(a_bond("x", ("name", "b"), lets)), ["p", "q"])
        self.assertEqual(quoted(a_bond("x", ("if", ("name", "d"), ("rate", "t"), ("name", "a")), lets)),
                         ["p", "q", "s", "t"])
        self.assertEqual(quoted(a_bond("x", ("percent", (1, 1)), lets)), [])

    def test_promises_do_not_quote(self):
        bond = a_bond("x", rates("y"), promises=[("p", ("less", ("rate", "z"), ("percent", (1, 1))), 0)])
        self.assertEqual(quoted(bond), ["y"])

    def test_unknown_lets(self):
        lets = [("v", ("add", ("name", "u"), ("rate", "y")))]
        for bond in (a_bond("x", ("name", "u")), a_bond("x", ("name", "v"), lets)):
            with self.assertRaises(UnknownLet) as caught:
                quoted(bond)
            self.assertEqual(caught.exception.name, "u")
        self.assertEqual(quoted(a_bond("x", lets=[("v", ("name", "u"))])), [])


class Groups(unittest.TestCase):
    def check(self, words, expected):
        bonds = bonds_of(words)
        for order in itertools.islice(itertools.permutations(bonds), 24):
            self.assertEqual(groups(list(order)), [list(word) for word in expected.split()])

    def test_example(self):
        x = read_bond("bond x by state" + HEAD + "coupon rate y + 1 percent")
        y = read_bond("bond y by town" + HEAD + "coupon 1/2 * rate x")
        z = read_bond("bond z by town" + HEAD + "coupon max(rate x, fact base)")
        self.assertEqual(groups([z, y, x]), [["x", "y"], ["z"]])
        self.assertEqual((is_ring([x, y, z], ["z"]), is_ring([x, y, z], ["x", "y"])), (False, True))

    def test_no_bonds(self):
        self.assertEqual(groups([]), [])

    def test_single_ones(self):
        self.check("x:", "x")
        self.check("x:x", "x")
        self.check("x: y: z:", "x y z")

    def test_dependence(self):
        self.check("a:b b:c c:d d:", "d c b a")
        self.check("a:bc b: c:", "b c a")
        self.check("a:d b: c: d:", "b c d a")
        self.check("a:c b:a c: d:", "c a b d")

    def test_rings(self):
        self.check("a:b b:a", "ab")
        self.check("a:b b:c c:a", "abc")
        self.check("a:b b:a c:b", "ab c")
        self.check("a:bc b:a c:", "c ab")
        self.check("a:z z:a b:", "az b")
        self.check("a:z z:ab b:", "b az")
        self.check("a:c c:ae e:c b:df d:b f:b", "ace bdf")
        self.check("a:cb c:ae e:c b:df d:b f:b", "bdf ace")
        self.check("a:b b:cd c:a d:b", "abcd")

    def test_the_least_name_of_a_group_counts_at_any_time(self):
        self.check("a:x x: b: c:d d:c", "b cd x a")
        self.check("m:z z:m b:m a:b c:", "c mz b a")
        self.check("d:y y:d c:x x:c a:c b:d", "cx a dy b")

    def test_lets_that_use_lets(self):
        lets = [("u", ("rate", "y")), ("v", ("multiply", ("name", "u"), ("number", (1, 2))))]
        self.assertEqual(groups([a_bond("x", ("name", "v"), lets), a_bond("y")]), [["y"], ["x"]])
        self.assertEqual(groups([a_bond("x", ("name", "v"), lets), a_bond("y", rates("x"))]), [["x", "y"]])
        self.assertEqual(groups([a_bond("x", lets=lets), a_bond("y")]), [["x"], ["y"]])

    def test_names_twice(self):
        for words, name in (("x: x:", "x"), ("x: y: y: x:", "y"), ("x: y: x: y:", "x"), ("x:z x:", "x")):
            with self.assertRaises(DuplicateBond) as caught:
                groups(bonds_of(words))
            self.assertEqual(caught.exception.name, name)

    def test_a_name_twice_comes_before_unknown_lets(self):
        with self.assertRaises(DuplicateBond):
            groups([a_bond("x", ("name", "u")), a_bond("y"), a_bond("x")])

    def test_unknown_lets_come_before_unknown_bonds(self):
        with self.assertRaises(UnknownLet) as caught:
            groups([a_bond("x", rates("gone")), a_bond("y", ("name", "u"))])
        self.assertEqual(caught.exception.name, "u")

    def test_unknown_bonds(self):
        for words, name in (("x:y", "y"), ("x:cba", "a"), ("x: y:xc z:a", "c"), ("z:q a:b", "q"), ("x:xyb y:a", "b")):
            with self.assertRaises(UnknownBond) as caught:
                groups(bonds_of(words))
            self.assertEqual(caught.exception.name, name)

    def test_a_let_that_is_not_used_quotes_nothing(self):
        self.assertEqual(groups([a_bond("x", lets=[("u", ("rate", "gone")), ("v", ("name", "w"))])]), [["x"]])

    def test_the_list_is_new(self):
        bonds = bonds_of("a:b b:a c:")
        groups(bonds)[0].append("z")
        self.assertEqual(groups(bonds), [["a", "b"], ["c"]])
        self.assertEqual([bond.name for bond in bonds], ["a", "b", "c"])

    def test_many_bonds(self):
        names = [first + second for first in "abcdefghij" for second in "abcdefghij"]
        bonds = [a_bond(name, rates(other)) for name, other in zip(names, names[1:] + names[:1])]
        self.assertEqual(groups(bonds), [names])
        bonds = [a_bond(name, rates(*other)) for name, other in zip(names, [[name] for name in names[1:]] + [[]])]
        self.assertEqual(groups(bonds), [[name] for name in names[::-1]])

    def test_many(self):
        chance = random.Random(36)
        sizes = {}
        for _ in range(400):
            names = sorted(chance.sample("abcdefghijkl", chance.randint(1, 8)))
            share = chance.choice([0.1, 0.2, 0.4])
            quotes = {name: [other for other in names if chance.random() < share] for name in names}
            reached = {(a, b) for a in names for b in quotes[a]}
            for middle, a, b in itertools.product(names, names, names):
                if (a, middle) in reached and (middle, b) in reached:
                    reached.add((a, b))
            together = []
            for name in names:
                group = [other for other in names
                         if other == name or (name, other) in reached and (other, name) in reached]
                if group not in together:
                    together.append(group)
            expected = []
            while len(expected) < len(together):
                known = [name for group in expected for name in group]
                ready = [group for group in together if group not in expected and all(
                    other in known or other in group for name in group for other in quotes[name])]
                expected.append(min(ready))
            bonds = [a_bond(name, rates(*quotes[name])) for name in names]
            chance.shuffle(bonds)
            self.assertEqual(groups(bonds), expected)
            for group in expected:
                ring = len(group) > 1 or group[0] in quotes[group[0]]
                self.assertIs(is_ring(bonds, group), ring)
                sizes[len(group)] = sizes.get(len(group), 0) + 1
        self.assertTrue(sizes[1] > 100 and sizes[2] > 20 and sizes[3] > 10, sizes)


class Rings(unittest.TestCase):
    def test_single_ones(self):
        self.assertIs(is_ring(bonds_of("x:"), ["x"]), False)
        self.assertIs(is_ring(bonds_of("x:x"), ["x"]), True)
        self.assertIs(is_ring(bonds_of("x:y y:y"), ["x"]), False)
        self.assertIs(is_ring(bonds_of("x:y y:y"), ["y"]), True)
        lets = [("u", ("if", TRUE, ("percent", (1, 1)), ("rate", "x")))]
        self.assertIs(is_ring([a_bond("x", ("name", "u"), lets)], ["x"]), True)

    def test_several(self):
        bonds = bonds_of("x:y y:x z:x")
        self.assertIs(is_ring(bonds, ["x", "y"]), True)
        self.assertIs(is_ring(bonds, ["z"]), False)


if __name__ == "__main__":
    unittest.main()
