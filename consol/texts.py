"""Bonds and their texts."""

from consol.accrual import DIVISORS
from consol.cursor import Cursor
from consol.dates import ADJUSTING_WORDS
from consol.errors import TextError, TooLarge
from consol.grammar import read_formula, write_expression
from consol.ratios import show_fraction

MOST_CHARACTERS = 8000
MOST_LINES = 60
MOST_UNITS = 1000000
LATEST_DAY = 100000
MOST_MONTHS = 60
LONGEST_RECORD = 60
LAST_RANK = 5
LONGEST_GRACE = 400
# Which words may begin the line behind a line, by the first word of that one.
LINES_BEHIND = {
    "": ("bond",), "bond": ("units",), "units": ("from",), "from": ("count",), "count": ("let", "coupon"),
    "let": ("let", "coupon"), "coupon": ("promise", "cross", "call"), "promise": ("promise", "cross", "call"),
    "cross": ("call",), "call": ("call",),
}
LAST_WORDS = ("coupon", "promise", "cross", "call")


class Bond:
    """A bond, as its text says it. Nothing is checked."""

    def __init__(self, name, issuer, *, units, face, first_day, last_day, months, count, adjust, record, rank, lets,
                 coupon, promises, cross, calls):
        self.name = name
        self.issuer = issuer
        self.units = units
        self.face = face
        self.first_day = first_day
        self.last_day = last_day
        self.months = months
        self.count = count
        self.adjust = adjust
        self.record = record
        self.rank = rank
        self.lets = list(lets)
        self.coupon = coupon
        self.promises = list(promises)
        self.cross = cross
        self.calls = list(calls)


def read_bond(text):
    """Returns the bond of a text."""
    lines = text.split("\n")
    if lines[-1] == "":
        lines = lines[:-1]
    if len(text) > MOST_CHARACTERS or len(lines) > MOST_LINES:
        raise TooLarge("text")
    parts = {"lets": [], "promises": [], "cross": None, "calls": []}
    word = ""
    for at, line in enumerate(lines):
        cursor = Cursor(line, at + 1, [let[0] for let in parts["lets"]])
        word = _read_first_word(cursor, LINES_BEHIND[word])
        read_line = READERS[word]
        parts.update(read_line(cursor, parts))
        cursor.expect_end()
    if word not in LAST_WORDS:
        raise TextError(len(lines) + 1, 1, "line")
    return Bond(**parts)


def write_bond(bond):
    """Returns the text of a bond."""
    lines = [
        f"bond {bond.name} by {bond.issuer}",
        f"units {bond.units} face {show_fraction(bond.face)}",
        f"from {bond.first_day} to {bond.last_day} every {bond.months} months",
        f"count {bond.count} adjust {bond.adjust} record {bond.record} rank {bond.rank}",
    ]
    lines.extend([f"let {name} = {write_expression(formula)}" for name, formula in bond.lets])
    lines.append(f"coupon {write_expression(bond.coupon)}")
    for name, formula, grace in bond.promises:
        lines.append(f"promise {name} must {write_expression(formula)} grace {grace}")
    if bond.cross is not None:
        lines.append(f"cross {show_fraction(bond.cross)}")
    lines.extend([f"call {day} at {show_fraction(price)}" for day, price in bond.calls])
    return "".join(f"{line}\n" for line in lines)


def same_bond(bond, other):
    """Tells whether all attributes of two bonds are equal."""
    due = [(_attributes(bond), _attributes(other))]
    # Long sums are nested too deep for Python's own comparison.
    while due:
        first, second = due.pop()
        if isinstance(first, (list, tuple)) and isinstance(second, (list, tuple)):
            if len(first) != len(second):
                return False
            due.extend(list(zip(first, second)))
        elif first != second:
            return False
    return True


def copied_bond(bond):
    """Returns a bond of the same attributes, with lists of its own."""
    return with_terms_of(bond, bond)


def with_terms_of(bond, other):
    """Returns a bond with the promises, the cross amount and the calls of another one."""
    return Bond(
        bond.name, bond.issuer, units=bond.units, face=bond.face, first_day=bond.first_day, last_day=bond.last_day,
        months=bond.months, count=bond.count, adjust=bond.adjust, record=bond.record, rank=bond.rank, lets=bond.lets,
        coupon=bond.coupon, promises=other.promises, cross=other.cross, calls=other.calls,
    )


def _attributes(bond):
    head = [bond.name, bond.issuer, bond.units, bond.face, bond.first_day, bond.last_day, bond.months, bond.count]
    return head + [bond.adjust, bond.record, bond.rank, bond.lets, bond.coupon, bond.promises, bond.cross, bond.calls]


def _read_first_word(cursor, words):
    word = cursor.ahead()
    if word not in words:
        column = cursor.column_ahead() if word != "" else 1
        raise TextError(cursor.number, column, "line")
    return cursor.take("word")


def _read_names(cursor, parts):
    name = cursor.take_name()
    cursor.expect("by")
    return {"name": name, "issuer": cursor.take_name()}


def _read_units(cursor, parts):
    units = cursor.take_integer(1, MOST_UNITS)
    cursor.expect("face")
    return {"units": units, "face": cursor.take_fraction()}


def _read_days(cursor, parts):
    first_day = cursor.take_integer(0, LATEST_DAY)
    cursor.expect("to")
    last_day = cursor.take_integer(first_day + 1, LATEST_DAY)
    cursor.expect("every")
    months = cursor.take_integer(1, MOST_MONTHS)
    cursor.expect("months")
    return {"first_day": first_day, "last_day": last_day, "months": months}


def _read_terms(cursor, parts):
    count = cursor.take_choice(list(DIVISORS))
    cursor.expect("adjust")
    adjust = cursor.take_choice(ADJUSTING_WORDS)
    cursor.expect("record")
    record = cursor.take_integer(0, LONGEST_RECORD)
    cursor.expect("rank")
    return {"count": count, "adjust": adjust, "record": record, "rank": cursor.take_integer(0, LAST_RANK)}


def _read_let(cursor, parts):
    name = cursor.take_new_name(cursor.lets)
    cursor.expect("=")
    return {"lets": [*parts["lets"], (name, read_formula(cursor))]}


def _read_coupon(cursor, parts):
    return {"coupon": read_formula(cursor)}


def _read_promise(cursor, parts):
    name = cursor.take_new_name([promise[0] for promise in parts["promises"]])
    cursor.expect("must")
    formula = read_formula(cursor)
    cursor.expect("grace")
    grace = cursor.take_integer(0, LONGEST_GRACE)
    return {"promises": [*parts["promises"], (name, formula, grace)]}


def _read_cross(cursor, parts):
    return {"cross": cursor.take_fraction()}


def _read_call(cursor, parts):
    latest = parts["calls"][-1][0] if parts["calls"] else parts["first_day"]
    day = cursor.take_integer(latest + 1, parts["last_day"] - 1)
    cursor.expect("at")
    return {"calls": [*parts["calls"], (day, cursor.take_fraction())]}


# A reader of a line is given what was read above it, and returns what the line adds or replaces.
READERS = {
    "bond": _read_names, "units": _read_units, "from": _read_days, "count": _read_terms, "let": _read_let,
    "coupon": _read_coupon, "promise": _read_promise, "cross": _read_cross, "call": _read_call,
}
