"""Tests of consol.cross (points 55 and 56)."""

import copy
import itertools
import random
import unittest

from consol.cross import cause_row, defaults, size
from consol.errors import UnknownBond
from consol.texts import Bond, read_bond
from helping import error_of


def a_bond(name, face=100, cross=None, issuer="state", units=10):
    whole = face if isinstance(face, tuple) else (face, 1)
    amount = cross if cross is None or isinstance(cross, tuple) else (cross, 1)
    return Bond(
        name, issuer, units=units, face=whole, first_day=0, last_day=365, months=6, count="thirty", adjust="none",
        record=0, rank=0, lets=[], coupon=("percent", (1, 1)), promises=[], cross=amount, calls=[],
    )


def bonds_of(words):
    """Bonds of the size 10 by words: "a" has no cross, "b15" is bound by more than 15."""
    return [a_bond(word[0], 1, int(word[1:]) if word[1:] else None) for word in words.split()]


def told_defaults(bonds, own, exempt):
    """The least of all sets that contain what they must."""
    names = [bond.name for bond in bonds]
    for many in range(len(bonds) + 1):
        for chosen in itertools.combinations(names, many):
            if all(name in chosen for name in own) and all(
                bond.name in chosen for bond in bonds if bond.name not in exempt and is_bound(bonds, bond, chosen)
            ):
                return list(chosen)


def is_bound(bonds, bond, names):
    others = [other for other in bonds if other.name in names and other.name != bond.name]
    amount = sum(other.units * other.face[0] for other in others if other.issuer == bond.issuer)
    return bond.cross is not None and amount > bond.cross[0]


def told_row(bonds, own, exempt, name):
    """The first cause row of all lists, the shorter ones first."""
    table = {bond.name: bond for bond in bonds}
    members = sorted(told_defaults(bonds, own, exempt))
    for many in range(1, len(members) + 1):
        for row in itertools.permutations(members, many):
            if row[-1] == name and all(
                other in own or is_bound(bonds, table[other], row[:at]) for at, other in enumerate(row)
            ):
                return list(row)
    return None


class Examples(unittest.TestCase):
    def test_examples(self):
        head = "\nunits 10 face 100\nfrom 0 to 365 every 6 months\ncount thirty adjust none record 0 rank 0\n"
        head = head + "coupon 1 percent\n"
        a = read_bond("bond a by state" + head)
        b = read_bond("bond b by state" + head + "cross 999")
        c = read_bond("bond c by state" + head + "cross 1000")
        self.assertEqual((defaults([a, b, c], ["a"]), cause_row([a, b, c], ["a"], [], "c")),
                         (["a", "b", "c"], ["a", "b", "c"]))
        self.assertEqual((defaults([a, b, c], ["a"], ["b"]), cause_row([a, b, c], [], [], "b")), (["a"], None))


class Size(unittest.TestCase):
    def test_size(self):
        self.assertEqual(size(a_bond("a", 100, units=7)), (700, 1))
        self.assertEqual(size(a_bond("a", (5, 6), units=4)), (10, 3))
        self.assertEqual(size(a_bond("a", (0, 1), units=4)), (0, 1))


class Defaults(unittest.TestCase):
    def test_nothing(self):
        self.assertEqual(defaults([], []), [])
        self.assertEqual(defaults(bonds_of("a b0"), []), [])

    def test_exactly_the_amount_and_one_more(self):
        bonds = [a_bond("a", 3, units=1), a_bond("b", (9, 2), units=2), a_bond("c", 1, 12, units=1)]
        self.assertEqual(defaults(bonds, ["a", "b"]), ["a", "b"])
        bonds[1].units = 3
        self.assertEqual(defaults(bonds, ["a", "b"]), ["a", "b", "c"])
        bonds[1].units = 2
        bonds[2].cross = (119, 10)
        self.assertEqual(defaults(bonds, ["a", "b"]), ["a", "b", "c"])

    def test_amount_of_zero(self):
        bonds = [a_bond("a", 0), a_bond("b", 1, 0), a_bond("c", 0, 0)]
        self.assertEqual(defaults(bonds, ["a"]), ["a"])
        self.assertEqual(defaults(bonds, ["b"]), ["b", "c"])

    def test_without_an_amount_a_bond_is_never_bound(self):
        self.assertEqual(defaults(bonds_of("a b c"), ["a", "c"]), ["a", "c"])

    def test_bonds_of_other_issuers_bind_nothing(self):
        bonds = [a_bond("a", 100, issuer="town"), a_bond("b", 1, 0), a_bond("c", 1, 0, "town")]
        self.assertEqual(defaults(bonds, ["a"]), ["a", "c"])

    def test_a_bond_does_not_bind_itself(self):
        self.assertEqual(defaults([a_bond("a", 100, 0)], []), [])
        bonds = [a_bond("a", 100, 5, units=1), a_bond("b", 5, units=1)]
        self.assertEqual(defaults(bonds, ["b"]), ["b"])

    def test_chains(self):
        bonds = bonds_of("e35 d25 c15 b5 a")
        self.assertEqual(defaults(bonds, ["a"]), ["e", "d", "c", "b", "a"])
        self.assertEqual(defaults(bonds, ["b"]), ["b"])
        self.assertEqual(defaults(bonds, ["b", "c"]), ["c", "b"])
        self.assertEqual(defaults(bonds, ["b", "d", "c"]), ["d", "c", "b"])

    def test_rings(self):
        bonds = bonds_of("a5 b5 c5")
        self.assertEqual(defaults(bonds, []), [])
        self.assertEqual(defaults(bonds, ["b"]), ["a", "b", "c"])
        self.assertEqual(defaults(bonds_of("a15 b15 c15"), ["b"]), ["b"])

    def test_exempt_bonds(self):
        bonds = bonds_of("a b5 c5 d15")
        self.assertEqual(defaults(bonds, ["a"], ["b"]), ["a", "c", "d"])
        self.assertEqual(defaults(bonds, ["a"], ["b", "c"]), ["a"])
        self.assertEqual(defaults(bonds, ["a"], ("d",)), ["a", "b", "c"])

    def test_own_causes_count_though_they_are_exempt(self):
        bonds = bonds_of("a b5 c15")
        self.assertEqual(defaults(bonds, ["a"], ["a"]), ["a", "b", "c"])
        self.assertEqual(defaults(bonds, ["b"], ["b", "c"]), ["b"])

    def test_a_name_twice(self):
        self.assertEqual(defaults(bonds_of("a b15"), ["a", "a"], ["a", "a"]), ["a"])

    def test_order_is_that_of_the_bonds(self):
        bonds = bonds_of("c5 a b5")
        self.assertEqual(defaults(bonds, ["b", "a"]), ["c", "a", "b"])

    def test_unknown_names(self):
        bonds = bonds_of("a b5")
        self.assertEqual(error_of(defaults, bonds, ["a", "z", "y"], ["w"]), (UnknownBond, {"name": "z"}))
        self.assertEqual(error_of(defaults, bonds, ["a"], ["b", "w", "v"]), (UnknownBond, {"name": "w"}))
        self.assertEqual(error_of(defaults, [], ["a"]), (UnknownBond, {"name": "a"}))

    def test_arguments_stay(self):
        own = ["a"]
        exempt = ["c"]
        bonds = bonds_of("a b5 c5")
        before = copy.deepcopy([vars(bond) for bond in bonds])
        defaults(bonds, own, exempt).append("z")
        cause_row(bonds, own, exempt, "b").append("z")
        self.assertEqual((own, exempt, [vars(bond) for bond in bonds]), (["a"], ["c"], before))


class Rows(unittest.TestCase):
    def row(self, words, own, name, exempt=()):
        return cause_row(bonds_of(words), list(own), list(exempt), name)

    def test_own_cause(self):
        self.assertEqual(self.row("a b5", "a", "a"), ["a"])
        # b is bound, too, but has a cause of its own.
        self.assertEqual(self.row("a b5", "ab", "b"), ["b"])

    def test_every_length(self):
        words = "a b5 c15 d25 e35 f45 g55 h65"
        for many, name in enumerate("abcdefgh", 1):
            self.assertEqual(self.row(words, "a", name), list("abcdefgh"[:many]))

    def test_not_in_default(self):
        self.assertIsNone(self.row("a b5", "", "a"))
        self.assertIsNone(self.row("a b10", "a", "b"))
        self.assertIsNone(self.row("a b5", "a", "b", exempt="b"))

    def test_the_least_one_of_several_shortest_ones(self):
        self.assertEqual(self.row("d c b5", "cd", "b"), ["c", "b"])
        self.assertEqual(self.row("f e d a15", "def", "a"), ["d", "e", "a"])
        self.assertEqual(self.row("x a5 b25 c15", "x", "b"), ["x", "a", "c", "b"])
        # a is bound, and cannot come before x and y.
        self.assertEqual(self.row("y x a5 z25", "yx", "z"), ["x", "a", "y", "z"])
        self.assertEqual(self.row("y x a15 z25", "yx", "z"), ["x", "y", "a", "z"])

    def test_a_shorter_row_before_a_lesser_one(self):
        bonds = [a_bond("a", 1), a_bond("b", 1), a_bond("c", 5), a_bond("d", 1, 15)]
        self.assertEqual(cause_row(bonds, ["a", "b", "c"], [], "d"), ["c", "d"])

    def test_exempt_bonds_are_in_no_row(self):
        self.assertEqual(self.row("a b5 c5 d15", "a", "d", exempt="b"), ["a", "c", "d"])
        self.assertEqual(self.row("a b5 c15", "a", "c", exempt="a"), ["a", "b", "c"])
        self.assertIsNone(self.row("a b5 c15", "a", "c", exempt="b"))

    def test_bonds_of_other_issuers_are_in_no_row(self):
        bonds = [a_bond("a", 9, issuer="town"), a_bond("b", 1), a_bond("c", 1, 5)]
        self.assertEqual(cause_row(bonds, ["a", "b"], [], "c"), ["b", "c"])

    def test_unknown_names(self):
        bonds = bonds_of("a b5")
        self.assertEqual(error_of(cause_row, bonds, ["a", "z"], ["y"], "x"), (UnknownBond, {"name": "z"}))
        self.assertEqual(error_of(cause_row, bonds, ["a"], ["y"], "x"), (UnknownBond, {"name": "y"}))
        self.assertEqual(error_of(cause_row, bonds, ["a"], ["b"], "x"), (UnknownBond, {"name": "x"}))


class Agreement(unittest.TestCase):
    def some_bonds(self, chance):
        names = chance.sample("abcdefgh", chance.randint(1, 6))
        issuers = ["state"] if chance.random() < 0.6 else ["state", "town"]
        return [a_bond(name, chance.choice([0, 1, 2, 5]), chance.choice([None, 0, 10, 15, 20, 30, 40]),
                       chance.choice(issuers)) for name in names]

    def test_sets_and_rows(self):
        chance = random.Random(55)
        lengths = set()
        for _ in range(400):
            bonds = self.some_bonds(chance)
            names = [bond.name for bond in bonds]
            own = [name for name in names if chance.random() < 0.3]
            exempt = [name for name in names if chance.random() < 0.15]
            found = defaults(bonds, own, exempt)
            self.assertEqual(found, told_defaults(bonds, own, exempt))
            for name in names:
                row = cause_row(bonds, own, exempt, name)
                self.assertEqual(row, told_row(bonds, own, exempt, name))
                self.assertEqual(row is None, name not in found)
                lengths.add(len(row or []))
            mixed = chance.sample(bonds, len(bonds))
            self.assertEqual(sorted(defaults(mixed, own[::-1], exempt[::-1])), sorted(found))
        self.assertGreaterEqual(lengths, {0, 1, 2, 3, 4})

    def test_eight_bonds_and_bonds_of_other_issuers(self):
        bonds = [a_bond(name, 1, None if name in "abcd" else 10 * at - 5) for at, name in enumerate("abcdefgh")]
        bonds = bonds + [a_bond(name, 1, 0, "town") for name in "stuvwxyz"]
        self.assertEqual(cause_row(bonds, list("abcds"), [], "h"), list("abcdefgh"))
        self.assertEqual(cause_row(bonds, list("abcds"), [], "z"), ["s", "z"])


if __name__ == "__main__":
    unittest.main()
