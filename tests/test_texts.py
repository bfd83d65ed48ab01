"""Tests of consol.texts (points 20 to 27)."""

import random
import unittest

from consol.errors import TextError, TooLarge
from consol.texts import Bond, read_bond, same_bond, write_bond

KEY_WORDS = (
    "bond by units face from to every months count adjust record rank let coupon promise must grace cross call at "
    "percent if then else or and not true false fact rate min max ever always before"
).split()
ATTRIBUTES = ("name issuer units face first_day last_day months count adjust record rank lets coupon promises cross "
              "calls").split()
PLAIN = [
    "bond x by state",
    "units 10 face 100",
    "from 1 to 366 every 12 months",
    "count thirty adjust none record 3 rank 0",
    "coupon 5 percent",
]
FULL = [
    "bond abcdefghijkl by town",
    "units 1000000 face 1001/2",
    "from 0 to 100000 every 60 months",
    "count plain adjust modified record 60 rank 5",
    "let base = 3 percent",
    "let up = base + rate x",
    "let poor = fact income < $5",
    "coupon if (poor or (ever 5 (poor))) then min(up, 9 percent) else up",
    "promise low must not poor grace 0",
    "promise high must (fact debt <= $1/2) and true grace 400",
    "cross 100/3",
    "call 1 at 102",
    "call 2 at 0",
    "call 99999 at 203/2",
]


def text_of(lines):
    return "\n".join(lines) + "\n"


def with_line(lines, at, line):
    """The text of lines of which one is another one."""
    return text_of(lines[:at] + [line] + lines[at + 1:])


def parts_of(bond):
    return {name: getattr(bond, name) for name in ATTRIBUTES}


def plain_parts(**changes):
    parts = {
        "name": "x", "issuer": "state", "units": 10, "face": (100, 1), "first_day": 1, "last_day": 366, "months": 12,
        "count": "thirty", "adjust": "none", "record": 3, "rank": 0, "lets": [], "coupon": ("percent", (5, 1)),
        "promises": [], "cross": None, "calls": [],
    }
    parts.update(changes)
    return parts


def some_bond(chance):
    """A bond with or without lets, promises, cross and calls."""
    lets = []
    for k in range(chance.randint(0, 3)):
        earlier = [("name", name) for name, _ in lets]
        lets.append((f"let{'abc'[k]}", ("add", chance.choice(earlier + [("rate", "y")]), ("percent", (k, 1)))))
    names = [("name", name) for name, _ in lets]
    truth = ("ever", chance.randint(1, 400), ("less", ("fact", "income"), ("money", (chance.randint(0, 9), 1))))
    promises = [("abc"[k], ("not", truth) if k else truth, chance.randint(0, 400)) for k in range(chance.randint(0, 3))]
    first = chance.randint(0, 1000)
    last = first + chance.randint(5, 9000)
    days = sorted(chance.sample(range(first + 1, last), chance.randint(0, 3)))
    return Bond(
        chance.choice(["x", "income", "abcdefghijkl"]), "state", units=chance.randint(1, 1000000),
        face=(chance.randint(0, 999), 1), first_day=first, last_day=last, months=chance.randint(1, 60),
        count=chance.choice(["thirty", "fixed", "plain"]),
        adjust=chance.choice(["none", "next", "modified", "before"]), record=chance.randint(0, 60),
        rank=chance.randint(0, 5), lets=lets,
        coupon=("if", truth, chance.choice(names + [("rate", "z")]), ("percent", (7, 2))), promises=promises,
        cross=chance.choice([None, (0, 1), (5, 2)]), calls=[(day, (day, 1)) for day in days],
    )


class BondTest(unittest.TestCase):
    def test_attributes(self):
        parts = parts_of(read_bond(text_of(FULL)))
        bond = Bond(parts.pop("name"), parts.pop("issuer"), **parts)
        self.assertEqual((bond.name, bond.issuer), ("abcdefghijkl", "town"))
        for name, value in parts.items():
            self.assertEqual(getattr(bond, name), value)
            self.assertIs(type(getattr(bond, name)), type(value))

    def test_names_of_arguments(self):
        self.assertEqual(parts_of(Bond(**plain_parts())), plain_parts())
        with self.assertRaises(TypeError):
            Bond(*plain_parts().values())
        for name in ATTRIBUTES:
            parts = plain_parts()
            del parts[name]
            with self.assertRaises(TypeError):
                Bond(**parts)

    def test_lists_are_copied(self):
        lets, promises, calls = [("a", ("true",))], [("b", ("true",), 3)], [(5, (1, 1))]
        bond = Bond(**plain_parts(lets=lets, promises=promises, calls=calls))
        lets.clear()
        promises.append("more")
        calls.clear()
        self.assertEqual(bond.lets, [("a", ("true",))])
        self.assertEqual(bond.promises, [("b", ("true",), 3)])
        self.assertEqual(bond.calls, [(5, (1, 1))])

    def test_nothing_is_checked(self):
        parts = plain_parts(name="if", units=0, first_day=9, last_day=3, calls=[(4, (1, 1)), (4, (1, 1))])
        self.assertEqual(parts_of(Bond(**parts)), parts)


class SameBondTest(unittest.TestCase):
    def test_same(self):
        for lines in (PLAIN, FULL):
            self.assertIs(same_bond(read_bond(text_of(lines)), read_bond(text_of(lines))), True)
        bond = Bond(**plain_parts())
        self.assertIs(same_bond(bond, bond), True)

    def test_each_attribute_counts(self):
        bond = Bond(**plain_parts(lets=[("a", ("true",))], promises=[("b", ("true",), 3)], calls=[(5, (1, 1))]))
        other_values = {
            "name": "y", "issuer": "town", "units": 11, "face": (100, 3), "first_day": 2, "last_day": 367, "months": 6,
            "count": "plain", "adjust": "next", "record": 4, "rank": 1, "coupon": ("percent", (5, 2)), "cross": (0, 1),
        }
        lists = {
            "lets": ([], [("b", ("true",))], [("a", ("false",))], [("a", ("true",)), ("b", ("true",))]),
            "promises": ([], [("c", ("true",), 3)], [("b", ("false",), 3)], [("b", ("true",), 4)]),
            "calls": ([], [(6, (1, 1))], [(5, (1, 2))], [(5, (1, 1)), (6, (1, 1))]),
        }
        for name in ATTRIBUTES:
            for value in lists.get(name, [other_values.get(name)]):
                other = Bond(**{**parts_of(bond), name: value})
                with self.subTest(name):
                    self.assertIs(same_bond(bond, other), False)
                    self.assertIs(same_bond(other, bond), False)

    def test_the_order_of_lets_counts(self):
        lets = [("a", ("true",)), ("b", ("true",))]
        self.assertIs(same_bond(Bond(**plain_parts(lets=lets)), Bond(**plain_parts(lets=lets[::-1]))), False)

    def test_long_sums(self):
        first = read_bond(with_line(PLAIN, 4, "coupon 1" + "+1" * 3000))
        second = read_bond(with_line(PLAIN, 4, "coupon 1" + "+1" * 3000))
        other = read_bond(with_line(PLAIN, 4, "coupon 2" + "+1" * 3000))
        shorter = read_bond(with_line(PLAIN, 4, "coupon 1" + "+1" * 2999))
        self.assertIs(same_bond(first, second), True)
        self.assertIs(same_bond(first, other), False)
        self.assertIs(same_bond(first, shorter), False)


class ReadTest(unittest.TestCase):
    def test_plain(self):
        self.assertEqual(parts_of(read_bond(text_of(PLAIN))), plain_parts())

    def test_full(self):
        bond = read_bond(text_of(FULL))
        poor = ("name", "poor")
        told = {
            "name": "abcdefghijkl", "issuer": "town", "units": 1000000, "face": (1001, 2), "first_day": 0,
            "last_day": 100000, "months": 60, "count": "plain", "adjust": "modified", "record": 60, "rank": 5,
            "lets": [
                ("base", ("percent", (3, 1))), ("up", ("add", ("name", "base"), ("rate", "x"))),
                ("poor", ("less", ("fact", "income"), ("money", (5, 1)))),
            ],
            "coupon": ("if", ("or", poor, ("ever", 5, poor)), ("min", ("name", "up"), ("percent", (9, 1))),
                       ("name", "up")),
            "promises": [
                ("low", ("not", poor), 0),
                ("high", ("and", ("atmost", ("fact", "debt"), ("money", (1, 2))), ("true",)), 400),
            ],
            "cross": (100, 3), "calls": [(1, (102, 1)), (2, (0, 1)), (99999, (203, 2))],
        }
        self.assertEqual(parts_of(bond), told)

    def test_the_last_newline_may_be_missing(self):
        for lines in (PLAIN, FULL):
            self.assertTrue(same_bond(read_bond("\n".join(lines)), read_bond(text_of(lines))))

    def test_spaces(self):
        lines = ["  " + line.replace(" ", "   ").replace("100", " 100 ") + "  " for line in PLAIN]
        self.assertEqual(parts_of(read_bond(text_of(lines))), plain_parts())

    def test_each_choice(self):
        for count in ("thirty", "fixed", "plain"):
            for adjust in ("none", "next", "modified", "before"):
                bond = read_bond(with_line(PLAIN, 3, f"count {count} adjust {adjust} record 3 rank 0"))
                self.assertEqual((bond.count, bond.adjust), (count, adjust))

    def test_numbers_need_no_lowest_terms(self):
        bond = read_bond(text_of([PLAIN[0], "units 10 face 6/4", *PLAIN[2:], "cross 0/7", "call 5 at 100/10"]))
        self.assertEqual((bond.face, bond.cross, bond.calls), ((3, 2), (0, 1), [(5, (10, 1))]))

    def test_optional_lines(self):
        for extra in (["promise a must true grace 3"], ["cross 5"], ["call 7 at 1"], ["cross 5", "call 7 at 1"],
                      ["promise a must true grace 3", "promise b must true grace 3", "call 7 at 1", "call 8 at 1"],
                      ["promise a must true grace 3", "cross 5"]):
            bond = read_bond(text_of(PLAIN + extra))
            self.assertEqual(len(bond.promises), sum(line.startswith("promise") for line in extra))
            self.assertEqual(bond.cross, (5, 1) if "cross 5" in extra else None)
            self.assertEqual(len(bond.calls), sum(line.startswith("call") for line in extra))

    def test_one_name_in_several_places(self):
        lines = [*PLAIN[:4], "let x = 1 percent", "coupon x", "promise x must true grace 0"]
        self.assertEqual(read_bond(text_of(lines)).lets, [("x", ("percent", (1, 1)))])

    def test_ranges(self):
        for at, line, name, value in [
            (1, "units 1 face 0", "units", 1), (1, "units 1000000 face 0", "units", 1000000),
            (2, "from 0 to 1 every 1 months", "first_day", 0), (2, "from 0 to 1 every 1 months", "last_day", 1),
            (2, "from 99999 to 100000 every 1 months", "last_day", 100000),
            (2, "from 99999 to 100000 every 60 months", "months", 60), (2, "from 5 to 6 every 1 months", "months", 1),
            (3, "count fixed adjust next record 0 rank 5", "record", 0),
            (3, "count fixed adjust next record 60 rank 0", "record", 60),
            (3, "count fixed adjust next record 60 rank 0", "rank", 0),
            (3, "count fixed adjust next record 0 rank 5", "rank", 5),
        ]:
            self.assertEqual(getattr(read_bond(with_line(PLAIN, at, line)), name), value)
        calls = ["call 2 at 0", "call 3 at 0", "call 365 at 0"]
        self.assertEqual([day for day, _ in read_bond(text_of(PLAIN + calls)).calls], [2, 3, 365])


class WriteTest(unittest.TestCase):
    def test_plain(self):
        self.assertEqual(write_bond(read_bond("\n".join(PLAIN))), text_of(PLAIN))

    def test_full(self):
        lines = list(FULL)
        lines[7] = "coupon if (poor or ever 5 (poor)) then min(up, 9 percent) else up"
        self.assertEqual(write_bond(read_bond(text_of(FULL))), text_of(lines))

    def test_only_expressions_that_need_it_have_parentheses(self):
        lines = [*PLAIN[:4], "let a = (1 + 2)", "coupon ((1 percent) * 2)", "promise b must (not (true)) grace 0"]
        told = [*PLAIN[:4], "let a = 1 + 2", "coupon 1 percent * 2", "promise b must not true grace 0"]
        self.assertEqual(write_bond(read_bond(text_of(lines))), text_of(told))

    def test_written_and_read(self):
        chance = random.Random(8)
        for _ in range(300):
            bond = some_bond(chance)
            text = write_bond(bond)
            again = read_bond(text)
            self.assertEqual(parts_of(again), parts_of(bond))
            self.assertTrue(same_bond(again, bond))
            self.assertEqual(write_bond(again), text)

    def test_the_bond_stays(self):
        bond = read_bond(text_of(FULL))
        kept = parts_of(read_bond(text_of(FULL)))
        write_bond(bond)
        same_bond(bond, bond)
        self.assertEqual(parts_of(bond), kept)

    def test_long_sums(self):
        text = write_bond(read_bond(with_line(PLAIN, 4, "coupon 1" + "+1" * 3000)))
        self.assertEqual(text.split("\n")[4], "coupon " + "(" * 2999 + "1" + " + 1)" * 2999 + " + 1")

    def test_read_and_written(self):
        lines = [*PLAIN[:4], "let a = " + "+".join(["1"] * 20), "coupon 1 percent"]
        bond = read_bond(text_of(lines))
        self.assertTrue(same_bond(read_bond(write_bond(bond)), bond))


class ErrorsTest(unittest.TestCase):
    def check(self, text, line, column, reason):
        with self.subTest(text), self.assertRaises(TextError) as caught:
            read_bond(text)
        error = caught.exception
        self.assertEqual((error.line, error.column, error.reason), (line, column, reason), text)

    def check_line(self, at, line, column, reason, behind=()):
        """Checks the error of a line that stands in place of a line of PLAIN, or behind them."""
        lines = PLAIN[:at] + [*behind, line]
        self.check(text_of(lines), len(lines), column, reason)
        if line != "":
            self.check("\n".join(lines), len(lines), column, reason)
        # What comes behind the first error does not matter.
        self.check(text_of(lines + ["A", "01"]), len(lines), column, reason)

    def test_tokens(self):
        self.check_line(0, "bond X by state", 6, "character")
        self.check_line(1, "units\t10 face 100", 6, "character")
        self.check_line(4, "coupon 5 percent\r", 17, "character")
        self.check_line(4, "coupon abcdefghijklm", 8, "word")
        self.check_line(1, "units 010 face 100", 7, "number")
        self.check_line(1, "units 10 face 1/0", 15, "number")
        self.check_line(0, "# bond", 1, "character")

    def test_tokens_come_before_all_else_of_a_line(self):
        self.check_line(0, "units units 01", 13, "number")
        self.check_line(4, "coupon ) A", 10, "character")
        self.check_line(3, "count never adjust none record 99 rank abcdefghijklm", 40, "word")

    def test_earlier_lines_come_first(self):
        lines = list(PLAIN)
        lines[1] = "units 0 face 100"
        lines[3] = "count A"
        self.check(text_of(lines), 2, 7, "range")
        self.check("bond x by\nA", 1, 10, "expected")

    def test_lines_that_are_due(self):
        words = {"bond": 0, "units": 1, "from": 2, "count": 3, "coupon": 4}
        rest = {"let": "let a = 1", "promise": "promise a must true grace 3", "cross": "cross 5", "call": "call 7 at 1"}
        for at in range(5):
            for word, place in words.items():
                if place != at:
                    self.check_line(at, f"  {PLAIN[place]}", 3, "line")
            for word, line in rest.items():
                if at != 4 or word != "let":
                    self.check_line(at, line, 1, "line")

    def test_lines_behind_the_coupon(self):
        rows = {"let": "let a = 1", "promise": "promise a must true grace 3", "cross": "cross 5", "call": "call 7 at 1"}
        for at in range(5):
            for behind in ([], ["promise b must true grace 3"], ["cross 4"], ["call 6 at 1"]):
                self.check_line(5, PLAIN[at], 1, "line", behind)
        for behind in ([], ["promise b must true grace 3"], ["cross 4"], ["call 6 at 1"]):
            self.check_line(5, rows["let"], 1, "line", behind)
        self.check_line(5, rows["promise"], 1, "line", ["cross 4"])
        self.check_line(5, rows["promise"], 1, "line", ["call 6 at 1"])
        self.check_line(5, rows["cross"], 1, "line", ["cross 4"])
        self.check_line(5, rows["cross"], 1, "line", ["call 6 at 1"])
        self.check_line(5, rows["cross"], 1, "line", ["cross 4", "call 6 at 1"])

    def test_lines_of_other_tokens(self):
        for at in range(6):
            self.check_line(at, "", 1, "line")
            self.check_line(at, "     ", 1, "line")
            self.check_line(at, "  5 units", 3, "line")
            self.check_line(at, " (", 2, "line")
            self.check_line(at, "x", 1, "line")
            self.check_line(at, "bonds x by state", 1, "line")
            self.check_line(at, "by", 1, "line")

    def test_texts_that_end_too_early(self):
        self.check("", 1, 1, "line")
        self.check("\n", 1, 1, "line")
        self.check("\n\n", 1, 1, "line")
        for many in range(1, 5):
            self.check(text_of(PLAIN[:many]), many + 1, 1, "line")
            self.check("\n".join(PLAIN[:many]), many + 1, 1, "line")
            self.check("\n".join(PLAIN[:many]) + "\n\n", many + 1, 1, "line")
        self.check(text_of(PLAIN[:4] + ["let a = 1", "let b = a"]), 7, 1, "line")

    def test_empty_lines_behind_the_end(self):
        self.check(text_of(PLAIN) + "\n", 6, 1, "line")
        self.check(text_of(PLAIN) + " ", 6, 1, "line")
        self.check(text_of(FULL) + "\n", 15, 1, "line")

    def test_lines_that_end_too_early(self):
        many = 0
        for at, line in enumerate(FULL):
            for column in range(1, len(line)):
                part = line[:column]
                # Only at a space the line is cut between two tokens.
                if line[column] == " " and line not in FULL[4:8]:
                    for text in (part, part + " ", part + "   "):
                        self.check(text_of(FULL[:at] + [text]), at + 1, len(text) + 1, "expected")
                        many = many + 1
        self.assertGreater(many, 100)
        for line in ("let", "let a", "let a =", "let a = ", "let a = 1 +"):
            self.check_line(4, line, len(line) + 1, "expected")
        for line in ("coupon", "coupon ", "coupon if true", "coupon 1 *", "coupon ("):
            self.check_line(4, line, len(line) + 1, "expected")
        for line in ("promise", "promise a", "promise a must", "promise a must true", "promise a must true grace "):
            self.check_line(5, line, len(line) + 1, "expected")

    def test_other_tokens_than_expected(self):
        self.check_line(0, "bond 5 by state", 6, "expected")
        self.check_line(0, "bond x of state", 8, "expected")
        self.check_line(0, "bond x state", 8, "expected")
        self.check_line(0, "bond x by 7", 11, "expected")
        self.check_line(0, "bond x by (", 11, "expected")
        self.check_line(1, "units x face 100", 7, "expected")
        self.check_line(1, "units 10 for 100", 10, "expected")
        self.check_line(1, "units 10 face x", 15, "expected")
        self.check_line(1, "units 10 face $100", 15, "expected")
        self.check_line(1, "units 10 face -1", 15, "expected")
        self.check_line(2, "from x to 366 every 12 months", 6, "expected")
        self.check_line(2, "from 1 till 366 every 12 months", 8, "expected")
        self.check_line(2, "from 1 to x every 12 months", 11, "expected")
        self.check_line(2, "from 1 to 366 each 12 months", 15, "expected")
        self.check_line(2, "from 1 to 366 every x months", 21, "expected")
        self.check_line(2, "from 1 to 366 every 12 days", 24, "expected")
        self.check_line(3, "count 5 adjust none record 3 rank 0", 7, "expected")
        self.check_line(3, "count = adjust none record 3 rank 0", 7, "expected")
        self.check_line(3, "count thirty by none record 3 rank 0", 14, "expected")
        self.check_line(3, "count thirty adjust 5 record 3 rank 0", 21, "expected")
        self.check_line(3, "count thirty adjust none note 3 rank 0", 26, "expected")
        self.check_line(3, "count thirty adjust none record x rank 0", 33, "expected")
        self.check_line(3, "count thirty adjust none record 3 order 0", 35, "expected")
        self.check_line(3, "count thirty adjust none record 3 rank x", 40, "expected")
        self.check_line(4, "let 5 = 1", 5, "expected")
        self.check_line(4, "let a < 1", 7, "expected")
        self.check_line(4, "let a 1", 7, "expected")
        self.check_line(4, "let a = )", 9, "expected")
        self.check_line(4, "coupon )", 8, "expected")
        self.check_line(5, "promise 5 must true grace 3", 9, "expected")
        self.check_line(5, "promise a has true grace 3", 11, "expected")
        self.check_line(5, "promise a must ) grace 3", 16, "expected")
        self.check_line(5, "promise a must true within 3", 21, "expected")
        self.check_line(5, "promise a must true grace x", 27, "expected")
        self.check_line(5, "cross x", 7, "expected")
        self.check_line(5, "cross $5", 7, "expected")
        self.check_line(5, "call x at 1", 6, "expected")
        self.check_line(5, "call 7 for 1", 8, "expected")
        self.check_line(5, "call 7 at x", 11, "expected")
        self.check_line(5, "call 7 at $1", 11, "expected")

    def test_tokens_behind_the_end_of_a_line(self):
        for at, line in enumerate(FULL):
            for more in ("x", "5", ")", "bond"):
                self.check(with_line(FULL, at, f"{line} {more}"), at + 1, len(line) + 2, "expected")

    def test_key_words_are_no_names(self):
        for word in KEY_WORDS:
            self.check_line(0, f"bond {word} by state", 6, "expected")
            self.check_line(0, f"bond x by {word}", 11, "expected")
            self.check_line(4, f"let {word} = 1", 5, "expected")
            self.check_line(5, f"promise {word} must true grace 3", 9, "expected")

    def test_slashes_where_an_integer_is_due(self):
        self.check_line(1, "units 10/1 face 100", 7, "expected")
        self.check_line(1, "units 0/1 face 100", 7, "expected")
        self.check_line(2, "from 1/1 to 366 every 12 months", 6, "expected")
        self.check_line(2, "from 1 to 366/1 every 12 months", 11, "expected")
        self.check_line(2, "from 1 to 366 every 12/1 months", 21, "expected")
        self.check_line(3, "count thirty adjust none record 3/1 rank 0", 33, "expected")
        self.check_line(3, "count thirty adjust none record 3 rank 9/2", 40, "expected")
        self.check_line(5, "promise a must true grace 3/1", 27, "expected")
        self.check_line(5, "call 7/1 at 1", 6, "expected")

    def test_twice(self):
        self.check_line(4, "let a = 2", 5, "twice", ["let a = 1"])
        self.check_line(4, "let a", 5, "twice", ["let a = 1"])
        self.check_line(4, "let a 5", 5, "twice", ["let b = 1", "let a = 1", "let c = 1"])
        self.check_line(5, "promise a must false grace 0", 9, "twice", ["promise a must true grace 3"])
        self.check_line(5, "promise a", 9, "twice", ["promise a must true grace 3", "promise b must true grace 3"])

    def test_unknown(self):
        self.check_line(4, "let a = b", 9, "unknown")
        self.check_line(4, "let a = a", 9, "unknown")
        self.check_line(4, "let a = 1 + b )", 13, "unknown", ["let c = 1"])
        self.check_line(4, "coupon a", 8, "unknown")
        self.check_line(4, "coupon min(b, a", 15, "unknown", ["let b = 1"])
        self.check_line(5, "promise b must b grace 3", 16, "unknown", ["promise a must true grace 3"])
        self.check(text_of(PLAIN[:4] + ["let a = b", "let b = 1", PLAIN[4]]), 5, 9, "unknown")

    def test_lets_of_earlier_lines_are_known(self):
        lines = [*PLAIN[:4], "let a = 1", "let b = a + a", "coupon b * a", "promise c must b < a grace 3"]
        self.assertEqual(read_bond(text_of(lines)).promises[0][1], ("less", ("name", "b"), ("name", "a")))

    def test_choice(self):
        self.check_line(3, "count never adjust none record 3 rank 0", 7, "choice")
        self.check_line(3, "count none", 7, "choice")
        self.check_line(3, "count if adjust none", 7, "choice")
        self.check_line(3, "count thirty adjust after record 3 rank 0", 21, "choice")
        self.check_line(3, "count thirty adjust thirty", 21, "choice")
        self.check_line(3, "count plain adjust always 99", 20, "choice")

    def test_deep(self):
        inner = "(" * 20 + "1" + ")" * 20
        lines = [*PLAIN[:4], f"let a = {inner}", f"coupon {inner}"]
        self.assertEqual(read_bond(text_of(lines)).coupon, ("number", (1, 1)))
        self.check_line(4, f"coupon ({inner})", 28, "deep")
        self.check_line(4, f"let a = ({inner})", 29, "deep")
        self.check_line(5, f"promise a must ({inner}) = 1 grace 3", 36, "deep")

    def test_range(self):
        self.check_line(1, "units 0 face 100", 7, "range")
        self.check_line(1, "units 1000001 face 100", 7, "range")
        self.check_line(1, "units 0 for 100", 7, "range")
        self.check_line(1, "units 999999999999", 7, "range")
        self.check_line(2, "from 100001 to 100002 every 1 months", 6, "range")
        self.check_line(2, "from 100001", 6, "range")
        self.check_line(2, "from 5 to 5 every 1 months", 11, "range")
        self.check_line(2, "from 5 to 4 each", 11, "range")
        self.check_line(2, "from 0 to 0", 11, "range")
        self.check_line(2, "from 5 to 100001 every 1 months", 11, "range")
        self.check_line(2, "from 100000 to 100000", 16, "range")
        self.check_line(2, "from 100000 to 100001", 16, "range")
        self.check_line(2, "from 1 to 366 every 0 months", 21, "range")
        self.check_line(2, "from 1 to 366 every 61 days", 21, "range")
        self.check_line(3, "count thirty adjust none record 61 rank 0", 33, "range")
        self.check_line(3, "count thirty adjust none record 3 rank 6", 40, "range")
        self.check_line(5, "promise a must true grace 401", 27, "range")
        self.check_line(5, "promise a must ever 401 (true) grace 401", 21, "range")
        self.assertEqual(read_bond(text_of([*PLAIN, "promise a must true grace 400"])).promises[0][2], 400)

    def test_days_of_calls(self):
        for day in (0, 1, 366, 367, 100001):
            self.check_line(5, f"call {day} at 1", 6, "range")
            self.check_line(5, f"call {day}", 6, "range")
        for day in (2, 99, 100, 366):
            self.check_line(5, f"call {day} at 1", 6, "range", ["call 50 at 1", "call 100 at 1"])
        self.assertEqual(len(read_bond(text_of([*PLAIN, "call 100 at 1", "call 101 at 1"])).calls), 2)


class TooLargeTest(unittest.TestCase):
    def check(self, text):
        with self.assertRaises(TooLarge) as caught:
            read_bond(text)
        self.assertEqual(caught.exception.limit, "text")

    def test_characters(self):
        text = text_of(PLAIN)
        lines = list(PLAIN)
        lines[0] = lines[0] + " " * (8000 - len(text))
        self.assertEqual(len(text_of(lines)), 8000)
        self.assertEqual(parts_of(read_bond(text_of(lines))), plain_parts())
        lines[0] = lines[0] + " "
        self.check(text_of(lines))
        self.assertEqual(parts_of(read_bond("\n".join(lines))), plain_parts())

    def test_lines(self):
        lets = [f"let a{'abcdefgh'[k // 8]}{'abcdefgh'[k % 8]} = {k}" for k in range(56)]
        lines = PLAIN[:4] + lets[:55] + PLAIN[4:]
        self.assertEqual(len(lines), 60)
        self.assertEqual(len(read_bond(text_of(lines)).lets), 55)
        self.assertEqual(len(read_bond("\n".join(lines)).lets), 55)
        self.check(text_of(PLAIN[:4] + lets + PLAIN[4:]))
        self.check("\n".join(PLAIN[:4] + lets + PLAIN[4:]))
        self.check(text_of(lines) + "\n")

    def test_before_other_errors(self):
        self.check("A" * 8001)
        self.check("\n" * 61)
        self.check("A\n" * 61)
        with self.assertRaises(TextError) as caught:
            read_bond("A" * 8000)
        self.assertEqual(caught.exception.reason, "character")
        with self.assertRaises(TextError) as caught:
            read_bond("\n" * 60)
        self.assertEqual((caught.exception.line, caught.exception.reason), (1, "line"))


if __name__ == "__main__":
    unittest.main()
