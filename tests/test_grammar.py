"""Tests of consol.grammar (points 20, 21, 24, 26 and 27)."""

import random
import unittest

from consol.errors import TextError
from consol.grammar import is_name, read_expression, write_expression

KEY_WORDS = (
    "bond by units face from to every months count adjust record rank let coupon promise must grace cross call at "
    "percent if then else or and not true false fact rate min max ever always before"
).split()
TRUE = ("true",)
FALSE = ("false",)
A = ("fact", "a")
B = ("fact", "b")
C = ("fact", "c")


def number(p, q=1):
    return ("number", (p, q))


# Each form of an expression with its written form.
FORMS = [
    (number(0), "0"),
    (number(12), "12"),
    (number(3, 4), "3/4"),
    (("money", (30, 1)), "$30"),
    (("money", (1, 3)), "$1/3"),
    (("percent", (3, 1)), "3 percent"),
    (("percent", (7, 2)), "7/2 percent"),
    (("fact", "income"), "fact income"),
    (("rate", "x"), "rate x"),
    (("add", A, B), "fact a + fact b"),
    (("subtract", A, B), "fact a - fact b"),
    (("multiply", A, B), "fact a * fact b"),
    (("min", A, B), "min(fact a, fact b)"),
    (("max", A, ("percent", (3, 1))), "max(fact a, 3 percent)"),
    (("less", A, B), "fact a < fact b"),
    (("atmost", A, B), "fact a <= fact b"),
    (("equal", A, B), "fact a = fact b"),
    (TRUE, "true"),
    (FALSE, "false"),
    (("not", TRUE), "not true"),
    (("and", TRUE, FALSE), "true and false"),
    (("or", TRUE, FALSE), "true or false"),
    (("if", TRUE, A, B), "if true then fact a else fact b"),
    (("ever", 1, TRUE), "ever 1 (true)"),
    (("always", 400, TRUE), "always 400 (true)"),
    (("before", 30, TRUE), "before 30 (true)"),
    (("less", ("multiply", ("fact", "income"), number(2)), ("money", (30, 1))), "(fact income * 2) < $30"),
    (("ever", 5, ("equal", ("fact", "low"), number(1))), "ever 5 (fact low = 1)"),
    (("ever", 5, ("not", ("ever", 6, TRUE))), "ever 5 (not ever 6 (true))"),
    (("not", ("or", TRUE, ("ever", 5, FALSE))), "not (true or ever 5 (false))"),
    (("not", ("not", TRUE)), "not (not true)"),
    (("add", ("add", A, B), C), "(fact a + fact b) + fact c"),
    (("add", A, ("add", B, C)), "fact a + (fact b + fact c)"),
    (("multiply", A, ("min", B, C)), "fact a * min(fact b, fact c)"),
    (("min", ("add", A, B), ("max", A, B)), "min((fact a + fact b), max(fact a, fact b))"),
    (("max", A, ("if", TRUE, B, C)), "max(fact a, (if true then fact b else fact c))"),
    (("and", ("and", TRUE, FALSE), ("not", TRUE)), "(true and false) and (not true)"),
    (("if", ("less", A, B), ("subtract", A, B), ("if", TRUE, A, B)),
     "if (fact a < fact b) then (fact a - fact b) else (if true then fact a else fact b)"),
    (("add", ("if", TRUE, A, B), number(1)), "(if true then fact a else fact b) + 1"),
    (("equal", ("percent", (1, 1)), ("rate", "y")), "1 percent = rate y"),
    (("always", 7, ("and", TRUE, FALSE)), "always 7 (true and false)"),
]

# Texts in other forms than the written ones.
TEXTS = [
    ("fact a+fact b", ("add", A, B)),
    ("  fact   a  +fact b ", ("add", A, B)),
    ("((fact a))", A),
    ("(((fact a)+((fact b))))", ("add", A, B)),
    ("fact a + fact b + fact c", ("add", ("add", A, B), C)),
    ("fact a - fact b - fact c", ("subtract", ("subtract", A, B), C)),
    ("fact a - fact b + fact c", ("add", ("subtract", A, B), C)),
    ("fact a * fact b * fact c", ("multiply", ("multiply", A, B), C)),
    ("fact a + fact b * fact c", ("add", A, ("multiply", B, C))),
    ("fact a * fact b + fact c", ("add", ("multiply", A, B), C)),
    ("(fact a + fact b) * fact c", ("multiply", ("add", A, B), C)),
    ("true and false and true", ("and", ("and", TRUE, FALSE), TRUE)),
    ("true or false or true", ("or", ("or", TRUE, FALSE), TRUE)),
    ("true or false and true", ("or", TRUE, ("and", FALSE, TRUE))),
    ("true and false or true", ("or", ("and", TRUE, FALSE), TRUE)),
    ("not true and false", ("and", ("not", TRUE), FALSE)),
    ("not not true", ("not", ("not", TRUE))),
    ("not fact a < fact b", ("not", ("less", A, B))),
    ("true and not false", ("and", TRUE, ("not", FALSE))),
    ("fact a > fact b", ("less", B, A)),
    ("fact a >= fact b", ("atmost", B, A)),
    ("fact a<fact b", ("less", A, B)),
    ("fact a<=fact b", ("atmost", A, B)),
    ("fact a + 1 > fact b * 2", ("less", ("multiply", B, number(2)), ("add", A, number(1)))),
    ("fact a < fact b or fact a = fact c", ("or", ("less", A, B), ("equal", A, C))),
    ("(fact a < fact b) = true", ("equal", ("less", A, B), TRUE)),
    ("if true then fact a else fact b + fact c", ("if", TRUE, A, ("add", B, C))),
    ("if true then fact a else if false then fact b else fact c", ("if", TRUE, A, ("if", FALSE, B, C))),
    ("if true then if false then fact a else fact b else fact c", ("if", TRUE, ("if", FALSE, A, B), C)),
    ("if if true then false else true then fact a else fact b", ("if", ("if", TRUE, FALSE, TRUE), A, B)),
    ("(if true then fact a else fact b) * fact c", ("multiply", ("if", TRUE, A, B), C)),
    ("if true or false then fact a else fact b", ("if", ("or", TRUE, FALSE), A, B)),
    ("min(if true then fact a else fact b,fact c)", ("min", ("if", TRUE, A, B), C)),
    ("max ( fact a , fact b + fact c )", ("max", A, ("add", B, C))),
    ("ever 5(true or false)", ("ever", 5, ("or", TRUE, FALSE))),
    ("before 12 (if true then false else true)", ("before", 12, ("if", TRUE, FALSE, TRUE))),
    ("4/2", number(2)),
    ("0/9", number(0)),
    ("6/4 percent", ("percent", (3, 2))),
    ("$ 10/4", ("money", (5, 2))),
    ("3percent", ("percent", (3, 1))),
    ("2 * 3 percent", ("multiply", number(2), ("percent", (3, 1)))),
    ("$1+$2", ("add", ("money", (1, 1)), ("money", (2, 1)))),
    ("999999999999/100000000000", number(999999999999, 100000000000)),
    ("rate abcdefghijkl", ("rate", "abcdefghijkl")),
]


def some_expression(chance, depth):
    """An expression of any form, without lets."""
    kind = chance.randint(0, 5 if depth == 0 else 19)
    if kind < 3:
        return (("number", "money", "percent")[kind], chance.choice([(0, 1), (1, 1), (7, 3), (999999999999, 2)]))
    if kind < 6:
        return [("fact", "income"), ("rate", "x"), TRUE, FALSE][chance.randint(0, 3)]
    parts = [some_expression(chance, depth - 1) for _ in range(3)]
    if kind < 15:
        words = ("add", "subtract", "multiply", "min", "max", "less", "atmost", "equal", "and")
        return (words[kind - 6], parts[0], parts[1])
    if kind == 15:
        return ("or", parts[0], parts[1])
    if kind == 16:
        return ("not", parts[0])
    if kind == 17:
        return ("if", *parts)
    return (("ever", "always", "before")[chance.randint(0, 2)], chance.randint(1, 400), parts[0])


LEVELS = {
    "if": 0, "or": 1, "and": 2, "not": 3, "less": 4, "atmost": 4, "equal": 4, "add": 5, "subtract": 5, "multiply": 6,
}
SIGNS = {
    "or": "or", "and": "and", "less": "<", "atmost": "<=", "equal": "=", "add": "+", "subtract": "-", "multiply": "*",
}


def sparing_text(expression, level=0):
    """The text of an expression with only those parentheses that the grammar needs."""
    word = expression[0]
    own = LEVELS.get(word, 7)
    if word in SIGNS:
        # Only comparisons do not stand side by side; the others group to the left.
        left = own + 1 if own == 4 else own
        text = f"{sparing_text(expression[1], left)} {SIGNS[word]} {sparing_text(expression[2], own + 1)}"
    elif word == "not":
        text = f"not {sparing_text(expression[1], 3)}"
    elif word == "if":
        text = "if {} then {} else {}".format(*[sparing_text(part) for part in expression[1:]])
    elif word in ("min", "max"):
        text = f"{word}({sparing_text(expression[1])}, {sparing_text(expression[2])})"
    elif word in ("ever", "always", "before"):
        text = f"{word} {expression[1]} ({sparing_text(expression[2])})"
    else:
        text = write_expression(expression)
    return f"({text})" if own < level else text


class NamesTest(unittest.TestCase):
    def test_names(self):
        for word in ("a", "z", "income", "abcdefghijkl", "iffy", "bonds", "nota", "percents", "zzzzzzzzzzzz", "grac"):
            self.assertIs(is_name(word), True, word)

    def test_key_words(self):
        self.assertEqual(len(KEY_WORDS), 36)
        for word in KEY_WORDS:
            self.assertIs(is_name(word), False, word)

    def test_no_names(self):
        for word in ("", " ", "A", "Income", "inComE", "a1", "1", "a b", " a", "a ", "a_b", "a-b", "abcdefghijklm",
                     "\u00e9", "stra\u00dfe", "\u0430", "a\n", "\n", "a.b", "$"):
            self.assertIs(is_name(word), False, repr(word))


class FormsTest(unittest.TestCase):
    def test_each_form_is_written(self):
        for expression, text in FORMS:
            self.assertEqual(write_expression(expression), text)

    def test_each_form_is_read(self):
        for expression, text in FORMS:
            self.assertEqual(read_expression(text), expression, text)

    def test_lets_are_written(self):
        self.assertEqual(write_expression(("name", "a")), "a")
        self.assertEqual(write_expression(("not", ("or", ("name", "a"), ("name", "b")))), "not (a or b)")
        self.assertEqual(write_expression(("min", ("name", "a"), ("percent", (3, 1)))), "min(a, 3 percent)")

    def test_other_texts_are_read(self):
        for text, expression in TEXTS:
            self.assertEqual(read_expression(text), expression, text)

    def test_example(self):
        told = ("and", ("less", ("money", (30, 1)), ("multiply", ("fact", "income"), number(2))), TRUE)
        self.assertEqual(read_expression("fact income * 2 > $30 and true"), told)

    def test_written_and_read(self):
        chance = random.Random(2)
        for _ in range(600):
            expression = some_expression(chance, 4)
            self.assertEqual(read_expression(write_expression(expression)), expression)

    def test_only_needed_parentheses(self):
        chance = random.Random(3)
        for _ in range(600):
            expression = some_expression(chance, 4)
            self.assertEqual(read_expression(sparing_text(expression)), expression)

    def test_without_spaces(self):
        chance = random.Random(4)
        for _ in range(200):
            expression = some_expression(chance, 3)
            text = write_expression(expression)
            for sign in "+-*<=(),$":
                text = text.replace(f" {sign}", sign).replace(f"{sign} ", sign)
            self.assertEqual(read_expression(text), expression)

    def test_long_rows(self):
        expression = number(1)
        for _ in range(3000):
            expression = ("add", expression, number(1))
        written = write_expression(expression)
        self.assertEqual(written, "(" * 2999 + "1" + " + 1)" * 2999 + " + 1")
        self.assertEqual(write_expression(read_expression("1" + "+1" * 3000)), written)
        text = "true" + " and true" * 2000
        self.assertTrue(write_expression(read_expression(text)).endswith("true) and true"))

    def test_deep_to_the_right(self):
        expression = TRUE
        for _ in range(3000):
            expression = ("or", FALSE, expression)
        self.assertEqual(write_expression(expression), "false or (" * 2999 + "false or true" + ")" * 2999)


class ErrorsTest(unittest.TestCase):
    def check(self, text, column, reason):
        with self.subTest(text), self.assertRaises(TextError) as caught:
            read_expression(text)
        error = caught.exception
        self.assertEqual((error.line, error.column, error.reason), (1, column, reason), text)

    def test_tokens(self):
        self.check("1 + A", 5, "character")
        self.check("1 + abcdefghijklm", 5, "word")
        self.check("1 + 01", 5, "number")
        self.check("1\n+ 1", 2, "character")
        self.check("true\n", 5, "character")

    def test_tokens_come_first(self):
        self.check(") 01", 3, "number")
        self.check("a + A", 5, "character")
        self.check("ever 0 (abcdefghijklm", 9, "word")

    def test_ends_too_early(self):
        for text in ("", " ", "   ", "1 +", "1 + ", "$", "fact", "rate ", "min", "min(", "min(1", "min(1,", "min(1,2",
                     "ever", "ever 5", "ever 5 (", "ever 5 (true", "(", "(1", "not", "not ", "true and", "true or ",
                     "1 <", "1 >= ", "1 *", "if", "if true", "if true then", "if true then 1", "if true then 1 else",
                     "if true then 1 else  "):
            self.check(text, len(text) + 1, "expected")

    def test_expected(self):
        self.check(")", 1, "expected")
        self.check("+ 1", 1, "expected")
        self.check("- 1", 1, "expected")
        self.check("1 2", 3, "expected")
        self.check("1 + + 1", 5, "expected")
        self.check("(1))", 4, "expected")
        self.check("(1", 3, "expected")
        self.check("(1, 2)", 3, "expected")
        self.check("()", 2, "expected")
        self.check("1 < 2 < 3", 7, "expected")
        self.check("1 < 2 = 3", 7, "expected")
        self.check("1 = 2 >= 3", 7, "expected")
        self.check("min(1 2)", 7, "expected")
        self.check("min(1)", 6, "expected")
        self.check("min(1,2,3)", 8, "expected")
        self.check("min 1, 2", 5, "expected")
        self.check("max[", 4, "character")
        self.check("ever (true)", 6, "expected")
        self.check("ever 5 true", 8, "expected")
        self.check("ever 4/2 (true)", 6, "expected")
        self.check("ever 5/7 (true)", 6, "expected")
        self.check("ever 5 (true, true)", 13, "expected")
        self.check("ever x (true)", 6, "expected")
        self.check("always -5 (true)", 8, "expected")
        self.check("$a", 2, "expected")
        self.check("$ percent", 3, "expected")
        self.check("$5 percent", 4, "expected")
        self.check("$$5", 2, "expected")
        self.check("5 percent percent", 11, "expected")
        self.check("percent", 1, "expected")
        self.check("fact 5", 6, "expected")
        self.check("fact (x)", 6, "expected")
        self.check("fact a b", 8, "expected")
        self.check("true false", 6, "expected")
        self.check("true(", 5, "expected")
        self.check("if true 1 else 2", 9, "expected")
        self.check("if true then 1 2", 16, "expected")
        self.check("if true then 1 then 2", 16, "expected")
        self.check("then", 1, "expected")
        self.check("else", 1, "expected")
        self.check("and true", 1, "expected")
        self.check("true or and true", 9, "expected")

    def test_places_of_the_grammar(self):
        self.check("1 + if true then 1 else 2", 5, "expected")
        self.check("true and if true then true else false", 10, "expected")
        self.check("not if true then true else false", 5, "expected")
        self.check("1 + not true", 5, "expected")
        self.check("1 < not true", 5, "expected")
        self.check("true = not true", 8, "expected")
        self.check("1 * not true", 5, "expected")

    def test_key_words_are_no_names(self):
        for word in KEY_WORDS:
            self.check(f"fact {word}", 6, "expected")
            self.check(f"rate  {word}", 7, "expected")

    def test_key_words_are_no_lets(self):
        beginning = ("fact", "rate", "min", "max", "ever", "always", "before")
        for word in KEY_WORDS:
            if word not in ("true", "false"):
                self.check(f"1 + {word}", len(word) + 5 if word in beginning else 5, "expected")

    def test_no_let_is_declared(self):
        self.check("a", 1, "unknown")
        self.check("1 + a", 5, "unknown")
        self.check("min(abc, 1 2)", 5, "unknown")
        self.check("ever 5 (a)", 9, "unknown")
        self.check("factt", 1, "unknown")
        self.check("a a", 1, "unknown")
        self.check("1 1 a", 3, "expected")
        self.check("units", 1, "expected")

    def test_range(self):
        for word in ("ever", "always", "before"):
            self.check(f"{word} 0 (true)", len(word) + 2, "range")
            self.check(f"{word} 401 (true)", len(word) + 2, "range")
            self.check(f"{word} 999999999999 (true)", len(word) + 2, "range")
            self.check(f"{word} 0 true", len(word) + 2, "range")
            self.check(f"{word} 0", len(word) + 2, "range")
            self.assertEqual(read_expression(f"{word} 1 (true)"), (word, 1, TRUE))
            self.assertEqual(read_expression(f"{word} 400 (true)"), (word, 400, TRUE))

    def test_deep_parentheses(self):
        self.assertEqual(read_expression("(" * 20 + "1" + ")" * 20), number(1))
        self.check("(" * 21 + "1" + ")" * 21, 21, "deep")
        self.check("(" * 21, 21, "deep")
        self.check("(" * 30 + "a", 21, "deep")
        self.check(" ( " * 21, 62, "deep")

    def test_deep_not_and_if(self):
        self.assertEqual(write_expression(read_expression("not " * 20 + "true")), "not (" * 19 + "not true" + ")" * 19)
        self.check("not " * 21 + "true", 81, "deep")
        self.check("not " * 20 + "(true)", 81, "deep")
        row = "if true then 1 else "
        self.assertEqual(read_expression(row * 20 + "1")[0], "if")
        self.check(row * 21 + "1", 401, "deep")
        self.check(row * 20 + "(1)", 401, "deep")
        self.check("if " * 21, 61, "deep")
        self.check("(" * 19 + "not not true", 24, "deep")

    def test_deep_min_and_timed(self):
        self.assertEqual(read_expression("min(" * 20 + "1" + ", 1)" * 20)[0], "min")
        self.check("min(" * 21 + "1" + ", 1)" * 21, 84, "deep")
        self.check("max(" * 21, 84, "deep")
        self.assertEqual(read_expression("ever 5 (" * 20 + "true" + ")" * 20)[0], "ever")
        self.check("ever 5 (" * 21 + "true", 168, "deep")
        self.check("min(1, " * 20 + "(1", 141, "deep")

    def test_what_is_closed_is_not_open(self):
        row = " + ".join(["(1)"] * 50)
        self.assertEqual(read_expression("(" * 19 + row + ")" * 19)[0], "add")
        for closed in ("not true", "ever 3 (true)", "min(1, 1) < 2", "(true)"):
            text = "(" * 19 + " and ".join([closed] * 30) + ")" * 19
            self.assertEqual(read_expression(text)[0], "and")
        conditional = "(if true then true else true)"
        self.assertEqual(read_expression("(" * 18 + " and ".join([conditional] * 30) + ")" * 18)[0], "and")
        self.check("(" * 19 + conditional, 21, "deep")
        conditional = "if not true then (1) else min(1, 2)"
        self.assertEqual(read_expression("(" * 18 + conditional + ")" * 18)[0], "if")
        self.check("(" * 19 + conditional + ")" * 19, 23, "deep")

    def test_what_is_closed_is_closed_once(self):
        conditional = "(if not true then true else not (false))"
        for closed in ("true", "(true)", "not true", "not not true", "ever 3 (true)", "min(1, 1) < 2", conditional):
            text = closed + " and "
            self.check(text + "(" * 21, len(text) + 21, "deep")
            self.check(text * 3 + "not " * 21, len(text) * 3 + 81, "deep")
            self.assertEqual(read_expression(text * 3 + "(" * 20 + "true" + ")" * 20)[0], "and")

    def test_an_open_not_ends_with_its_expression(self):
        text = "(" * 19 + "not true or (true)" + ")" * 19
        self.assertEqual(read_expression(text)[0], "or")
        self.check("(" * 19 + "not (true)" + ")" * 19, 24, "deep")
        self.check("(" * 19 + "not 1 < (2)" + ")" * 19, 28, "deep")


if __name__ == "__main__":
    unittest.main()
