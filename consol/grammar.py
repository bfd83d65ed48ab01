"""Expressions: how they are written, and how they are read.

Reading follows the grammar, one function for each of its lines. It never goes
deep, since few parentheses may be open at once. Written expressions may be
nested much deeper (a long sum is), so writing keeps its own stack.
"""

from consol.cursor import KEY_WORDS, Cursor
from consol.lexer import LETTERS, MOST_LETTERS
from consol.ratios import show_fraction

SUM_WORDS = {"+": "add", "-": "subtract"}
COMPARING_WORDS = {"<": "less", "<=": "atmost", "=": "equal", ">": "less", ">=": "atmost"}
TURNED_SIGNS = (">", ">=")
SIGNS = {
    "add": "+", "subtract": "-", "multiply": "*", "less": "<", "atmost": "<=", "equal": "=", "and": "and", "or": "or",
}
OPERATORS = ("add", "subtract", "multiply", "less", "atmost", "equal", "and", "or", "not", "if")
TIMED = ("ever", "always", "before")
PLAIN = ("number", "money", "percent", "fact", "rate", "name", "true", "false")
LONGEST_TIME = 400


def is_name(word):
    """Tells whether a string is a name."""
    if len(word) < 1 or len(word) > MOST_LETTERS or word in KEY_WORDS:
        return False
    return all(letter in LETTERS for letter in word)


def first_part(expression):
    """Returns the index of the first item that is an expression itself, or the length if there is none.

    All items behind it are expressions, too.
    """
    if expression[0] in PLAIN:
        return len(expression)
    return 2 if expression[0] in TIMED else 1


def write_expression(expression):
    """Returns the written form of an expression."""
    written = []
    due = [expression]
    while due:
        piece = due.pop()
        if isinstance(piece, str):
            written.append(piece)
        else:
            due.extend(_pieces(piece)[::-1])
    return "".join(written)


def read_expression(text):
    """Returns the expression of a text of one line without lets."""
    cursor = Cursor(text, 1, [])
    expression = read_formula(cursor)
    cursor.expect_end()
    return expression


def _pieces(expression):
    """Returns the strings and the parts that an expression is written by, in order."""
    word = expression[0]
    if word in SIGNS:
        return _part(expression[1]) + [f" {SIGNS[word]} "] + _part(expression[2])
    if word == "not":
        return ["not "] + _part(expression[1])
    if word == "if":
        chosen = _part(expression[2]) + [" else "] + _part(expression[3])
        return ["if "] + _part(expression[1]) + [" then "] + chosen
    if word in ("min", "max"):
        return [f"{word}("] + _part(expression[1]) + [", "] + _part(expression[2]) + [")"]
    if word in TIMED:
        return [f"{word} {expression[1]} (", expression[2], ")"]
    return [_written_atom(expression)]


def _part(expression):
    """Returns the pieces of a part, in parentheses if an operator writes it."""
    if expression[0] in OPERATORS:
        return ["(", expression, ")"]
    return [expression]


def _written_atom(expression):
    word = expression[0]
    if word in ("true", "false"):
        return word
    if word in ("fact", "rate"):
        return f"{word} {expression[1]}"
    if word == "name":
        return expression[1]
    number = show_fraction(expression[1])
    if word == "money":
        return f"${number}"
    return f"{number} percent" if word == "percent" else number


def read_formula(cursor):
    """Reads an expression from a cursor: EXP of the grammar."""
    if cursor.ahead() != "if":
        return _read_or(cursor)
    cursor.begin("if")
    condition = read_formula(cursor)
    cursor.expect("then")
    first = read_formula(cursor)
    cursor.expect("else")
    second = read_formula(cursor)
    cursor.finish()
    return ("if", condition, first, second)


def _read_or(cursor):
    expression = _read_and(cursor)
    while cursor.skip("or"):
        expression = ("or", expression, _read_and(cursor))
    return expression


def _read_and(cursor):
    expression = _read_not(cursor)
    while cursor.skip("and"):
        expression = ("and", expression, _read_not(cursor))
    return expression


def _read_not(cursor):
    if cursor.ahead() != "not":
        return _read_comparison(cursor)
    cursor.begin("not")
    expression = ("not", _read_not(cursor))
    cursor.finish()
    return expression


def _read_comparison(cursor):
    first = _read_sum(cursor)
    sign = cursor.ahead()
    if sign not in COMPARING_WORDS:
        return first
    cursor.expect(sign)
    second = _read_sum(cursor)
    if sign in TURNED_SIGNS:
        return (COMPARING_WORDS[sign], second, first)
    return (COMPARING_WORDS[sign], first, second)


def _read_sum(cursor):
    expression = _read_product(cursor)
    while cursor.ahead() in SUM_WORDS:
        word = SUM_WORDS[cursor.take("sign")]
        expression = (word, expression, _read_product(cursor))
    return expression


def _read_product(cursor):
    expression = _read_atom(cursor)
    while cursor.skip("*"):
        expression = ("multiply", expression, _read_atom(cursor))
    return expression


def _read_atom(cursor):
    word = cursor.ahead()
    if word == "(":
        return _read_in_parentheses(cursor)
    if word in ("min", "max"):
        return _read_choice(cursor)
    if word in TIMED:
        return _read_timed(cursor)
    if cursor.kind_ahead() == "number":
        return _read_number(cursor)
    if cursor.skip("$"):
        return ("money", cursor.take_fraction())
    if cursor.skip("true") or cursor.skip("false"):
        return (word,)
    if cursor.skip("fact") or cursor.skip("rate"):
        return (word, cursor.take_name())
    return ("name", cursor.take_let())


def _read_number(cursor):
    number = cursor.take_fraction()
    return ("percent", number) if cursor.skip("percent") else ("number", number)


def _read_in_parentheses(cursor):
    cursor.begin("(")
    expression = read_formula(cursor)
    cursor.expect(")")
    cursor.finish()
    return expression


def _read_choice(cursor):
    word = cursor.take("word")
    cursor.begin("(")
    first = read_formula(cursor)
    cursor.expect(",")
    second = read_formula(cursor)
    cursor.expect(")")
    cursor.finish()
    return (word, first, second)


def _read_timed(cursor):
    word = cursor.take("word")
    days = cursor.take_integer(1, LONGEST_TIME)
    return (word, days, _read_in_parentheses(cursor))
