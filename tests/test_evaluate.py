"""Tests of consol.evaluate (points 30 to 34)."""

import copy
import random
import unittest
from fractions import Fraction

from consol.errors import ConsolError, MissingFact, MissingRate, UnknownLet
from consol.evaluate import Watch, names_of, value

TRUE = ("true",)
FALSE = ("false",)
ZERO = (0, 1)
ONE = (1, 1)
GONE = ("less", ("fact", "gone"), ("number", ONE))
LOW = ("equal", ("fact", "low"), ("number", ONE))


def number(p, q=1):
    return ("number", (p, q))


def bits(text):
    """The values of a fact that is 1 on the days with an x and 0 on the others."""
    return [ONE if letter == "x" else ZERO for letter in text]


class Missing(Exception):
    pass


def told(expression, lets, day, facts, rates):
    """The value by the document's words, with Fraction for fractions."""
    word = expression[0]

    def part(at, on=day):
        return told(expression[at], lets, on, facts, rates)

    if word in ("fact", "rate"):
        lists = facts if word == "fact" else rates
        if day >= len(lists.get(expression[1], [])):
            raise Missing(word, expression[1], day)
        return Fraction(*lists[expression[1]][day])
    if word == "name":
        if expression[1] not in lets:
            raise Missing("let", expression[1], None)
        return told(lets[expression[1]], lets, day, facts, rates)
    if word in ("number", "money", "percent"):
        return Fraction(*expression[1]) / (100 if word == "percent" else 1)
    if word in ("true", "false"):
        return word == "true"
    if word in ("ever", "always"):
        for on in range(max(0, day - expression[1] + 1), day + 1):
            if part(2, on) == (word == "ever"):
                return word == "ever"
        return word == "always"
    if word == "before":
        return day >= expression[1] and part(2, day - expression[1])
    if word == "not":
        return not part(1)
    if word == "and":
        return part(1) and part(2)
    if word == "or":
        return part(1) or part(2)
    if word == "if":
        return part(2) if part(1) else part(3)
    first = part(1)
    second = part(2)
    return {
        "add": first + second, "subtract": first - second, "multiply": first * second, "min": min(first, second),
        "max": max(first, second), "less": first < second, "atmost": first <= second, "equal": first == second,
    }[word]


def outcome(call, *given):
    """What a call returns, or which error it raises, in one form for both ways of finding it."""
    try:
        result = call(*given)
    except Missing as missing:
        return missing.args
    except (MissingFact, MissingRate) as missing:
        return ("fact" if isinstance(missing, MissingFact) else "rate", missing.name, missing.day)
    except UnknownLet as unknown:
        return ("let", unknown.name, None)
    return Fraction(*result) if isinstance(result, tuple) else result


def some_expression(chance, depth, truth, lets=()):
    """An expression that fits; the facts a and b and the rates r and s are counts and rates in it."""
    if depth == 0:
        plain = [TRUE, FALSE, ("less", ("fact", "a"), number(2))] if truth else [
            number(chance.randint(0, 3)), ("percent", (chance.randint(0, 900), 1)), ("money", (1, 3)), ("fact", "a"),
            ("fact", "b"), ("rate", "r"), ("rate", "s"),
        ]
        named = [("name", name) for name, is_truth in lets if is_truth == truth]
        return chance.choice(named if named and chance.random() < 0.4 else plain)

    def part(is_truth):
        return some_expression(chance, depth - 1, is_truth, lets)

    if chance.random() < 0.2:
        return ("if", part(True), part(truth), part(truth))
    if not truth:
        return (chance.choice(["add", "subtract", "multiply", "min", "max"]), part(False), part(False))
    word = chance.choice(["less", "atmost", "equal", "not", "and", "or", "ever", "always", "before"])
    if word in ("less", "atmost", "equal"):
        return (word, part(False), part(False))
    if word in ("and", "or"):
        return (word, part(True), part(True))
    return (word, part(True)) if word == "not" else (word, chance.randint(1, 5), part(True))


def some_lets(chance):
    """Lets that use earlier lets, and which of them are truths."""
    lets = []
    told_kinds = []
    for name in "uvw"[:chance.randint(0, 3)]:
        truth = chance.random() < 0.5
        lets.append((name, some_expression(chance, 2, truth, told_kinds)))
        told_kinds.append((name, truth))
    return lets, told_kinds


class Value(unittest.TestCase):
    def check(self, expression, result, day=0, facts=None, rates=None, lets=()):
        found = value(expression, list(lets), day, facts or {}, rates or {})
        self.assertEqual(found, result)
        self.assertIs(type(found), type(result))

    def refuse(self, error, name, on, expression, day=0, facts=None, rates=None, lets=()):
        with self.assertRaises(error) as caught:
            value(expression, list(lets), day, facts or {}, rates or {})
        self.assertEqual(caught.exception.name, name)
        if error is not UnknownLet:
            self.assertEqual(caught.exception.day, on)

    def test_examples(self):
        low = ("ever", 2, ("less", ("fact", "income"), ("money", (5, 1))))
        facts = {"income": [(4, 1), (7, 1), (9, 1)]}
        self.assertEqual([value(low, [], day, facts, {}) for day in range(3)], [True, True, False])
        self.check(("if", TRUE, number(1), ("fact", "none")), (1, 1))
        self.refuse(MissingFact, "income", 3, ("fact", "income"), 3, facts)

    def test_plain_ones(self):
        self.check(number(7, 3), (7, 3))
        self.check(("money", (7, 3)), (7, 3))
        self.check(("percent", (50, 1)), (1, 2))
        self.check(("percent", (7, 2)), (7, 200))
        self.check(("percent", ZERO), ZERO)
        self.check(TRUE, True)
        self.check(FALSE, False)

    def test_facts_and_rates(self):
        facts = {"a": [(1, 1), (-2, 3)], "b": []}
        rates = {"a": [(1, 8)], "x": [(1, 9), (2, 9), (1, 3)]}
        self.check(("fact", "a"), (1, 1), 0, facts, rates)
        self.check(("fact", "a"), (-2, 3), 1, facts, rates)
        self.check(("rate", "x"), (2, 9), 1, facts, rates)
        self.check(("rate", "a"), (1, 8), 0, facts, rates)
        self.refuse(MissingFact, "a", 2, ("fact", "a"), 2, facts, rates)
        self.refuse(MissingFact, "b", 0, ("fact", "b"), 0, facts, rates)
        self.refuse(MissingFact, "x", 0, ("fact", "x"), 0, facts, rates)
        self.refuse(MissingRate, "a", 1, ("rate", "a"), 1, facts, rates)
        self.refuse(MissingRate, "b", 0, ("rate", "b"), 0, facts, rates)

    def test_numbers(self):
        first, second = number(7, 2), number(5, 3)
        self.check(("add", first, second), (31, 6))
        self.check(("subtract", first, second), (11, 6))
        self.check(("subtract", second, first), (-11, 6))
        self.check(("multiply", first, second), (35, 6))
        self.check(("min", first, second), (5, 3))
        self.check(("min", second, first), (5, 3))
        self.check(("max", first, second), (7, 2))
        self.check(("max", second, first), (7, 2))
        self.check(("min", first, first), (7, 2))
        self.check(("multiply", ("percent", (3, 1)), ("money", (200, 1))), (6, 1))

    def test_comparisons(self):
        small, large = number(5, 3), number(7, 2)
        for word, results in (("less", "x.."), ("atmost", "xx."), ("equal", ".x.")):
            for parts, result in zip(((small, large), (large, large), (large, small)), results):
                self.check((word, *parts), result == "x")

    def test_truths(self):
        for first in (True, False):
            one = TRUE if first else FALSE
            self.check(("not", one), not first)
            self.check(("if", one, number(1), number(2)), (1, 1) if first else (2, 1))
            for second in (True, False):
                other = TRUE if second else FALSE
                self.check(("and", one, other), first and second)
                self.check(("or", one, other), first or second)
                self.check(("if", one, other, ("not", other)), second if first else not second)

    def test_only_as_far_as_needed(self):
        self.check(("and", FALSE, GONE), False)
        self.check(("or", TRUE, GONE), True)
        self.check(("if", TRUE, number(1), ("fact", "gone")), (1, 1))
        self.check(("if", FALSE, ("fact", "gone"), number(1)), (1, 1))
        self.check(("and", ("and", FALSE, GONE), GONE), False)
        self.check(("if", ("or", ("not", FALSE), GONE), FALSE, GONE), False)
        for needed in (("and", TRUE, GONE), ("and", GONE, FALSE), ("or", FALSE, GONE), ("or", GONE, TRUE),
                       ("if", GONE, number(1), number(1)), ("if", TRUE, ("fact", "gone"), number(1)),
                       ("if", FALSE, number(1), ("fact", "gone")), ("not", GONE),
                       ("multiply", number(0), ("fact", "gone")), ("min", ("fact", "gone"), number(0))):
            self.refuse(MissingFact, "gone", 0, needed)

    def test_the_first_missing_one_counts(self):
        rate, fact = ("rate", "x"), ("fact", "f")
        for word in ("add", "subtract", "multiply", "min", "max", "less", "atmost", "equal"):
            self.refuse(MissingRate, "x", 2, (word, rate, fact), 2)
            self.refuse(MissingFact, "f", 2, (word, fact, rate), 2)
        deep = ("add", ("multiply", number(1), ("fact", "g")), fact)
        self.refuse(MissingFact, "g", 0, deep)
        self.refuse(MissingFact, "g", 0, ("if", ("less", deep, number(1)), fact, rate))
        self.refuse(MissingFact, "f", 0, ("add", ("name", "u"), ("fact", "g")), lets=[("u", ("add", fact, rate))])

    def test_ever(self):
        facts = {"low": bits("..x....x")}
        for days, results in ((1, "..x....x"), (2, "..xx...x"), (3, "..xxx..x"), (6, "..xxxxxx"), (400, "..xxxxxx")):
            for day, result in enumerate(results):
                self.check(("ever", days, LOW), result == "x", day, facts)

    def test_always(self):
        facts = {"low": bits("xx.xxxx.")}
        for days, results in ((1, "xx.xxxx."), (2, "xx..xxx."), (3, "xx...xx."), (4, "xx....x."), (400, "xx......")):
            for day, result in enumerate(results):
                self.check(("always", days, LOW), result == "x", day, facts)

    def test_before(self):
        facts = {"low": bits("x.xx.")}
        for days, results in ((1, ".x.xx"), (2, "..x.x"), (4, "....x"), (5, "....."), (400, ".....")):
            for day, result in enumerate(results):
                self.check(("before", days, LOW), result == "x", day, facts)

    def test_before_looks_at_one_day(self):
        self.check(("before", 3, GONE), False, 2)
        self.refuse(MissingFact, "gone", 0, ("before", 3, GONE), 3)
        self.refuse(MissingFact, "gone", 6, ("before", 3, GONE), 9)
        self.check(("before", 2, LOW), True, 9, {"low": bits("xxxxxxxx")})

    def test_timed_truths_stop_as_soon_as_they_are_certain(self):
        facts = {"low": bits("...x")}
        self.check(("ever", 3, LOW), True, 5, facts)
        self.check(("ever", 400, LOW), True, 100, facts)
        self.refuse(MissingFact, "low", 4, ("ever", 2, LOW), 5, facts)
        self.refuse(MissingFact, "low", 4, ("always", 3, LOW), 5, facts)
        facts = {"low": bits("xx.x")}
        self.check(("always", 4, LOW), False, 5, facts)
        self.check(("always", 400, LOW), False, 100, facts)
        self.refuse(MissingFact, "low", 4, ("always", 3, LOW), 5, facts)
        self.refuse(MissingFact, "low", 4, ("ever", 2, LOW), 5, facts)
        self.refuse(MissingFact, "low", 4, ("always", 1, LOW), 4, facts)
        self.refuse(MissingFact, "low", 4, ("ever", 1, LOW), 4, facts)

    def test_timed_truths_look_at_the_earliest_day_first(self):
        self.refuse(MissingFact, "gone", 0, ("ever", 7, GONE), 6)
        self.refuse(MissingFact, "gone", 1, ("ever", 6, GONE), 6)
        self.refuse(MissingFact, "gone", 6, ("always", 1, GONE), 6)
        self.refuse(MissingFact, "gone", 0, ("always", 400, GONE), 6)
        both = ("and", LOW, GONE)
        self.refuse(MissingFact, "gone", 2, ("ever", 4, both), 4, {"low": bits("..x..")})

    def test_timed_truths_in_timed_truths(self):
        facts = {"low": bits("x...xx..x")}
        inner = ("ever", 2, LOW)
        self.assertEqual([value(("always", 2, inner), [], day, facts, {}) for day in range(9)],
                         [letter == "x" for letter in "xx...xx.."])
        self.assertEqual([value(("before", 1, inner), [], day, facts, {}) for day in range(9)],
                         [letter == "x" for letter in ".xx..xxx."])
        self.assertEqual([value(("ever", 2, ("before", 3, LOW)), [], day, facts, {}) for day in range(9)],
                         [letter == "x" for letter in "...xx..xx"])
        self.assertEqual([value(("ever", 2, ("not", inner)), [], day, facts, {}) for day in range(9)],
                         [letter == "x" for letter in "..xxx..xx"])

    def test_deep_timed_truths(self):
        deep = LOW
        for _ in range(20):
            deep = ("ever", 400, ("not", ("always", 399, deep)))
        self.check(deep, False, 60, {"low": bits("." * 61)})
        self.check(("ever", 400, ("not", ("always", 399, deep))), True, 60, {"low": bits("." * 61)})

    def test_lets(self):
        lets = [("a", ("fact", "f")), ("b", ("add", ("name", "a"), number(1)))]
        lets.append(("c", ("less", ("name", "b"), number(9))))
        facts = {"f": [(3, 1), (8, 1)]}
        self.check(("name", "a"), (3, 1), 0, facts, lets=lets)
        self.check(("name", "b"), (4, 1), 0, facts, lets=lets)
        self.check(("multiply", ("name", "b"), ("name", "a")), (72, 1), 1, facts, lets=lets)
        self.check(("name", "c"), False, 1, facts, lets=lets)
        self.check(("ever", 2, ("name", "c")), True, 1, facts, lets=lets)
        self.check(("before", 1, ("name", "c")), True, 1, facts, lets=lets)

    def test_a_let_has_its_value_on_the_day_that_is_looked_at(self):
        lets = [("a", ("fact", "f"))]
        facts = {"f": [(3, 1), (8, 1), (5, 1)]}
        rose = ("and", ("before", 1, ("less", ("name", "a"), number(8))), ("less", number(7), ("name", "a")))
        self.assertEqual([value(rose, lets, day, facts, {}) for day in range(3)], [False, True, False])

    def test_lets_that_are_not_there(self):
        self.refuse(UnknownLet, "u", None, ("name", "u"))
        self.refuse(UnknownLet, "u", None, ("add", number(1), ("name", "u")), lets=[("v", number(1))])
        self.refuse(UnknownLet, "w", None, ("name", "v"), lets=[("v", ("name", "w"))])
        self.refuse(UnknownLet, "u", None, ("add", ("name", "u"), ("fact", "gone")))
        self.refuse(MissingFact, "gone", 0, ("add", ("fact", "gone"), ("name", "u")))
        self.refuse(UnknownLet, "f", None, ("name", "f"), facts={"f": [(1, 1)]})
        self.check(("if", TRUE, number(1), ("name", "u")), (1, 1))
        self.check(("and", FALSE, ("name", "u")), False)
        self.check(("before", 1, ("name", "u")), False)

    def test_a_let_that_is_not_needed(self):
        self.check(number(1), (1, 1), lets=[("v", ("fact", "gone")), ("w", ("name", "u"))])
        self.check(("if", FALSE, ("name", "v"), number(1)), (1, 1), lets=[("v", ("fact", "gone"))])

    def test_a_let_and_a_fact_of_one_name(self):
        self.check(("add", ("name", "f"), ("fact", "f")), (5, 1), facts={"f": [(3, 1)]}, lets=[("f", number(2))])

    def test_deep_expressions(self):
        deep = number(1)
        truth = TRUE
        for _ in range(3000):
            deep = ("add", deep, number(1))
            truth = ("and", truth, TRUE)
        self.check(deep, (3001, 1))
        self.check(truth, True)
        deep = number(1)
        for _ in range(3000):
            deep = ("max", number(0), deep)
        self.check(("less", deep, number(1)), False)

    def test_lets_that_double(self):
        lets = [("a", ("fact", "f"))]
        for before, name in zip("abcdefghijklmnopqrstuvwxy", "bcdefghijklmnopqrstuvwxyz"):
            lets.append((name, ("add", ("name", before), ("name", before))))
        self.check(("name", "z"), (2 ** 25, 1), facts={"f": [(1, 1)]}, lets=lets)

    def test_arguments_stay(self):
        lets = [("u", ("ever", 2, LOW))]
        facts = {"low": bits("..x")}
        rates = {"x": [(1, 2)]}
        given = copy.deepcopy((lets, facts, rates))
        value(("name", "u"), lets, 2, facts, rates)
        self.assertEqual((lets, facts, rates), given)

    def test_many(self):
        chance = random.Random(31)
        kinds = {"value": 0, "fact": 0, "rate": 0, "let": 0}
        for _ in range(1500):
            lets, told_kinds = some_lets(chance)
            expression = some_expression(chance, chance.randint(0, 4), chance.random() < 0.5, told_kinds)
            if lets and chance.random() < 0.1:
                del lets[0]
            facts = {name: [(chance.randint(-3, 6), chance.choice([1, 1, 7])) for _ in range(chance.randint(0, 7))]
                     for name in chance.choice(["a", "b", "ab", "ab", "ab"])}
            rates = {name: [(chance.randint(0, 9), 11) for _ in range(chance.randint(0, 7))]
                     for name in chance.choice(["r", "s", "rs", "rs", "rs"])}
            facts = {name: [Fraction(*item).as_integer_ratio() for item in row] for name, row in facts.items()}
            rates = {name: [Fraction(*item).as_integer_ratio() for item in row] for name, row in rates.items()}
            day = chance.randint(0, 6)
            expected = outcome(told, expression, dict(lets), day, facts, rates)
            found = outcome(value, expression, lets, day, facts, rates)
            self.assertEqual(found, expected, (expression, lets, day, facts, rates))
            kinds[expected[0] if isinstance(expected, tuple) else "value"] += 1
        self.assertTrue(kinds["value"] > 500 and min(kinds["fact"], kinds["rate"]) > 100 and kinds["let"] > 3, kinds)


class NamesOf(unittest.TestCase):
    def test_names(self):
        expression = ("add", ("multiply", ("fact", "b"), ("rate", "z")), ("min", ("fact", "a"), ("rate", "y")))
        self.assertEqual(names_of(expression, []), (["a", "b"], ["y", "z"]))
        self.assertEqual(names_of(("add", expression, expression), []), (["a", "b"], ["y", "z"]))
        self.assertEqual(names_of(number(1), []), ([], []))
        self.assertEqual(names_of(("equal", ("fact", "x"), ("rate", "x")), []), (["x"], ["x"]))

    def test_every_form(self):
        for word in ("add", "subtract", "multiply", "min", "max", "less", "atmost", "equal"):
            self.assertEqual(names_of((word, ("fact", "b"), ("fact", "a")), []), (["a", "b"], []))
        for word in ("and", "or"):
            self.assertEqual(names_of((word, LOW, GONE), []), (["gone", "low"], []))
        for word in ("ever", "always", "before"):
            self.assertEqual(names_of((word, 3, ("less", ("rate", "x"), ("fact", "a"))), []), (["a"], ["x"]))
        self.assertEqual(names_of(("not", LOW), []), (["low"], []))
        self.assertEqual(names_of(("if", LOW, ("rate", "y"), ("rate", "x")), []), (["low"], ["x", "y"]))
        for plain in (("money", ONE), ("percent", ONE), TRUE, FALSE):
            self.assertEqual(names_of(plain, []), ([], []))

    def test_what_is_not_needed_occurs(self):
        self.assertEqual(names_of(("if", TRUE, ("fact", "a"), ("rate", "x")), []), (["a"], ["x"]))
        self.assertEqual(names_of(("and", FALSE, LOW), []), (["low"], []))

    def test_lets(self):
        lets = [("u", ("fact", "a")), ("v", ("add", ("name", "u"), ("rate", "x"))), ("w", ("fact", "c"))]
        self.assertEqual(names_of(("name", "u"), lets), (["a"], []))
        self.assertEqual(names_of(("name", "v"), lets), (["a"], ["x"]))
        self.assertEqual(names_of(("add", ("name", "v"), ("fact", "b")), lets), (["a", "b"], ["x"]))
        self.assertEqual(names_of(number(1), lets), ([], []))

    def test_unknown_lets(self):
        for expression, lets in (
            (("name", "u"), []), (("if", TRUE, number(1), ("name", "u")), [("v", number(1))]),
            (("name", "v"), [("v", ("add", ("fact", "u"), ("name", "u")))]), (("ever", 1, ("name", "u")), []),
        ):
            with self.assertRaises(UnknownLet) as caught:
                names_of(expression, lets)
            self.assertEqual(caught.exception.name, "u")

    def test_an_unknown_let_in_a_let_that_is_not_used(self):
        self.assertEqual(names_of(("fact", "a"), [("v", ("name", "u"))]), (["a"], []))

    def test_deep_ones_and_lets_that_double(self):
        deep = ("fact", "a")
        for _ in range(3000):
            deep = ("add", deep, ("rate", "x"))
        self.assertEqual(names_of(deep, []), (["a"], ["x"]))
        lets = [("a", ("fact", "f"))]
        for before, name in zip("abcdefghijklmnopqrstuvwxy", "bcdefghijklmnopqrstuvwxyz"):
            lets.append((name, ("add", ("name", before), ("name", before))))
        self.assertEqual(names_of(("name", "z"), lets), (["f"], []))


def inside(thing, seen=None):
    """All integers in an object, its attributes, and what they contain."""
    if isinstance(thing, int):
        return [thing]
    if isinstance(thing, dict):
        thing = list(thing.keys()) + list(thing.values())
    elif hasattr(thing, "__dict__"):
        thing = list(vars(thing).values())
    if isinstance(thing, (list, tuple, set, frozenset)):
        return [item for part in thing for item in inside(part)]
    return []


class Watches(unittest.TestCase):
    def steps(self, watch, text):
        return "".join("x" if watch.step({"low": one}, {}) else "." for one in bits(text))

    def test_examples(self):
        watch = Watch(("ever", 2, ("less", ("fact", "income"), ("money", (5, 1)))), [])
        self.assertEqual([watch.step({"income": income}, {}) for income in ((4, 1), (7, 1), (9, 1))],
                         [True, True, False])

    def test_timed_truths(self):
        for days, results in ((1, "..x....x"), (2, "..xx...x"), (3, "..xxx..x"), (6, "..xxxxxx"), (400, "..xxxxxx")):
            self.assertEqual(self.steps(Watch(("ever", days, LOW), []), "..x....x"), results)
        for days, results in ((1, "xx.xxxx."), (2, "xx..xxx."), (3, "xx...xx."), (4, "xx....x."), (400, "xx......")):
            self.assertEqual(self.steps(Watch(("always", days, LOW), []), "xx.xxxx."), results)
        for days, results in ((1, ".x.xx"), (2, "..x.x"), (4, "....x"), (5, "....."), (400, ".....")):
            self.assertEqual(self.steps(Watch(("before", days, LOW), []), "x.xx."), results)

    def test_values_are_truths(self):
        watch = Watch(("before", 1, ("ever", 2, LOW)), [])
        for low in bits("x.x.."):
            self.assertIsInstance(watch.step({"low": low}, {}), bool)
        self.assertIs(Watch(("before", 1, LOW), []).step({"low": ONE}, {}), False)
        self.assertIs(Watch(("ever", 1, LOW), []).step({"low": ONE}, {}), True)

    def test_next_day(self):
        watch = Watch(LOW, [])
        for day, low in enumerate(bits("x.x")):
            self.assertEqual(watch.next_day, day)
            watch.step({"low": low}, {})
        self.assertEqual(watch.next_day, 3)

    def test_kept(self):
        watch = Watch(("or", ("ever", 2, LOW), ("always", 4, LOW)), [])
        kept = [watch.kept()]
        for low in bits("x.x..x"):
            watch.step({"low": low}, {})
            kept.append(watch.kept())
        self.assertEqual(kept, [0, 2, 4, 5, 6, 6, 6])

    def test_a_watch_without_timed_parts_keeps_nothing(self):
        watch = Watch(("not", LOW), [])
        self.assertEqual((self.steps(watch, "x.x"), watch.kept()), (".x.", 0))

    def test_kept_by_before(self):
        watch = Watch(("before", 3, LOW), [])
        kept = []
        for low in bits("x.x.."):
            watch.step({"low": low}, {})
            kept.append(watch.kept())
        self.assertEqual(kept, [1, 2, 3, 3, 3])

    def test_equal_timed_parts_are_kept_once(self):
        part = ("ever", 3, LOW)
        same = ("ever", 3, ("equal", ("fact", "low"), ("number", (1, 1))))
        watch = Watch(("and", ("or", part, same), ("name", "u")), [("u", ("not", ("always", 2, part)))])
        for low in bits("x.x.."):
            watch.step({"low": low}, {})
        self.assertEqual(watch.kept(), 3 + 2)

    def test_equal_timed_parts_with_a_let_are_kept_once(self):
        part = ("ever", 3, ("name", "u"))
        watch = Watch(("and", ("and", part, ("name", "v")), ("not", part)), [("u", LOW), ("v", ("before", 2, part))])
        for low in bits("x.x.."):
            watch.step({"low": low}, {})
        self.assertEqual(watch.kept(), 3 + 2)

    def test_different_timed_parts_are_kept_each(self):
        parts = [("ever", 3, LOW), ("ever", 2, LOW), ("always", 3, LOW), ("before", 3, LOW), ("ever", 3, GONE),
                 ("ever", 3, ("equal", ("fact", "low"), ("money", ONE))), ("ever", 3, ("ever", 3, LOW))]
        expression = TRUE
        for part in parts:
            expression = ("and", expression, part)
        watch = Watch(expression, [])
        for low in bits("x.x.."):
            watch.step({"low": low, "gone": ONE}, {})
        self.assertEqual(watch.kept(), 3 + 2 + 3 + 3 + 3 + 3 + 3)

    def test_a_part_in_a_let_that_is_not_used_is_not_kept(self):
        watch = Watch(("ever", 2, LOW), [("u", ("ever", 9, LOW)), ("v", ("ever", 9, GONE))])
        self.assertEqual((self.steps(watch, "x.."), watch.kept()), ("xx.", 2))

    def test_no_facts_of_past_days_are_kept(self):
        small = ("less", ("fact", "f"), ("rate", "x"))
        watch = Watch(("or", ("ever", 5, small), ("before", 5, ("always", 3, small))), [])
        for day in range(9):
            watch.step({"f": (1000003 + day, 1)}, {"x": (2000003 + day, 1)})
        self.assertEqual([item for item in inside(watch) if item > 1000000], [])
        self.assertEqual(watch.kept(), 5 + 5 + 3)

    def test_what_was_given_may_change_afterwards(self):
        lets = [("u", ("ever", 2, LOW))]
        watch = Watch(("name", "u"), lets)
        lets[0] = ("u", FALSE)
        facts = {"low": ONE}
        results = [watch.step(facts, {})]
        facts["low"] = ZERO
        results.append(watch.step(facts, {}))
        results.append(watch.step(facts, {}))
        self.assertEqual(results, [True, True, False])

    def test_arguments_stay(self):
        facts, rates = {"low": ONE}, {"x": (1, 2)}
        Watch(("ever", 2, LOW), []).step(facts, rates)
        self.assertEqual((facts, rates), ({"low": ONE}, {"x": (1, 2)}))

    def test_all_timed_parts_are_needed_on_every_day(self):
        for expression in (("and", FALSE, ("ever", 2, GONE)), ("or", TRUE, ("before", 2, GONE)),
                           ("if", TRUE, TRUE, ("always", 2, GONE)), ("not", ("and", FALSE, ("before", 400, GONE)))):
            watch = Watch(expression, [])
            with self.assertRaises(MissingFact) as caught:
                watch.step({}, {})
            self.assertEqual((caught.exception.name, caught.exception.day, watch.next_day), ("gone", 0, 0))

    def test_other_parts_are_evaluated_as_they_are_needed(self):
        self.assertIs(Watch(("and", FALSE, GONE), []).step({}, {}), False)
        self.assertIs(Watch(("if", TRUE, TRUE, GONE), []).step({}, {}), True)
        watch = Watch(("ever", 2, ("or", LOW, GONE)), [])
        self.assertIs(watch.step({"low": ONE}, {}), True)
        with self.assertRaises(MissingFact):
            watch.step({"low": ZERO}, {})

    def test_the_inner_timed_parts_come_first(self):
        inner = ("ever", 2, ("less", ("fact", "inner"), number(1)))
        watch = Watch(("ever", 3, ("and", ("less", ("fact", "outer"), number(1)), inner)), [])
        with self.assertRaises(MissingFact) as caught:
            watch.step({}, {})
        self.assertEqual(caught.exception.name, "inner")

    def test_the_same_day_again(self):
        expression = ("and", ("ever", 2, ("before", 1, LOW)), ("not", ("less", ("rate", "x"), ("percent", ONE))))
        watch = Watch(expression, [])
        results = []
        for day, low in enumerate(bits("x..x..")):
            with self.assertRaises(MissingFact) as caught:
                watch.step({}, {"x": ONE})
            self.assertEqual((caught.exception.name, caught.exception.day), ("low", day))
            kept = watch.kept()
            if day in (1, 2, 4, 5):
                with self.assertRaises(MissingRate) as caught:
                    watch.step({"low": low}, {})
                self.assertEqual((caught.exception.name, caught.exception.day), ("x", day))
            self.assertEqual((watch.next_day, watch.kept()), (day, kept))
            results.append(watch.step({"low": low}, {"x": ONE}))
            self.assertEqual(watch.next_day, day + 1)
        self.assertEqual(results, [False, True, True, False, True, True])

    def test_unknown_lets(self):
        for expression, lets in ((("name", "u"), []), (("and", FALSE, ("name", "u")), []),
                                 (("name", "v"), [("v", ("ever", 2, ("name", "u")))])):
            with self.assertRaises(UnknownLet) as caught:
                Watch(expression, lets)
            self.assertEqual(caught.exception.name, "u")
        Watch(TRUE, [("v", ("name", "u"))])

    def test_deep_ones_and_lets_that_double(self):
        deep = LOW
        for _ in range(2000):
            deep = ("and", deep, LOW)
        self.assertEqual(self.steps(Watch(("before", 1, deep), []), "x.x"), ".x.")
        lets = [("a", ("ever", 2, LOW))]
        for before, name in zip("abcdefghijklmnopqrstuvwxy", "bcdefghijklmnopqrstuvwxyz"):
            lets.append((name, ("and", ("name", before), ("before", 1, ("name", before)))))
        watch = Watch(("name", "e"), lets)
        self.assertEqual(self.steps(watch, "xxxxxxxx"), "....xxxx")
        watch = Watch(("name", "z"), lets)
        self.assertEqual(self.steps(watch, "xx"), "..")

    def test_many(self):
        chance = random.Random(34)
        truths = 0
        for _ in range(600):
            lets, told_kinds = some_lets(chance)
            expression = some_expression(chance, chance.randint(0, 5), True, told_kinds)
            facts = {name: [Fraction(chance.randint(-3, 6), 2).as_integer_ratio() for _ in range(9)] for name in "ab"}
            rates = {name: [Fraction(chance.randint(0, 9), 2).as_integer_ratio() for _ in range(9)] for name in "rs"}
            watch = Watch(expression, lets)
            for day in range(9):
                expected = told(expression, dict(lets), day, facts, rates)
                result = watch.step(*[{name: row[day] for name, row in lists.items()} for lists in (facts, rates)])
                self.assertIs(result, expected, (expression, lets, day))
                truths += expected
        self.assertTrue(1500 < truths < 4000, truths)

    def test_a_watch_that_was_refused_many_times(self):
        chance = random.Random(35)
        refused = 0
        for _ in range(300):
            lets, told_kinds = some_lets(chance)
            expression = some_expression(chance, chance.randint(1, 4), True, told_kinds)
            watch = Watch(expression, lets)
            plain = Watch(expression, lets)
            for _ in range(7):
                facts = {name: (chance.randint(-3, 6), 1) for name in "ab"}
                rates = {name: (chance.randint(0, 5), 1) for name in "rs"}
                partial = {name: item for name, item in facts.items() if chance.random() < 0.5}
                try:
                    copy.deepcopy(watch).step(partial, {})
                except ConsolError as error:
                    refused += 1
                    with self.assertRaises(type(error)) as caught:
                        watch.step(partial, {})
                    self.assertEqual(caught.exception.day, watch.next_day)
                self.assertEqual(watch.step(facts, rates), plain.step(facts, rates))
                self.assertEqual(watch.kept(), plain.kept())
        self.assertTrue(refused > 200, refused)


if __name__ == "__main__":
    unittest.main()
