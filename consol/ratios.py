"""Fractions: tuples (p, q) without a common divisor, with q at least 1."""

from math import gcd

from consol.errors import DivisionByZero, InvalidNumber, TooLarge

ZERO = (0, 1)
DIGITS = "0123456789"
MOST_DIGITS_READ = 12
MOST_DIGITS_SHOWN = 1000
DIGITS_OF_PIECE = 60


def is_fraction(value):
    """Tells whether a value of any kind is a fraction."""
    if not isinstance(value, tuple) or len(value) != 2:
        return False
    p, q = value
    if not _is_integer(p) or not _is_integer(q):
        return False
    return q >= 1 and gcd(p, q) == 1


def _is_integer(value):
    return isinstance(value, int) and not isinstance(value, bool)


def fraction(p, q=1):
    """Returns p / q."""
    if q == 0:
        raise DivisionByZero()
    divisor = gcd(p, q)
    if q < 0:
        divisor = -divisor
    return (p // divisor, q // divisor)


def plus(a, b):
    """Returns a + b."""
    return fraction(a[0] * b[1] + b[0] * a[1], a[1] * b[1])


def minus(a, b):
    """Returns a - b."""
    return fraction(a[0] * b[1] - b[0] * a[1], a[1] * b[1])


def times(a, b):
    """Returns a * b."""
    return fraction(a[0] * b[0], a[1] * b[1])


def opposite(a):
    """Returns the number that is 0 together with a."""
    return (-a[0], a[1])


def over(a, b):
    """Returns a / b."""
    return fraction(a[0] * b[1], a[1] * b[0])


def order(a, b):
    """Returns -1, 0 or 1 as a is less than, equal to or greater than b."""
    return sign((a[0] * b[1] - b[0] * a[1], 1))


def sign(a):
    """Returns -1, 0 or 1 as a is less than, equal to or greater than 0."""
    if a[0] < 0:
        return -1
    return 1 if a[0] > 0 else 0


def smaller(a, b):
    """Returns the lesser one of two numbers."""
    return a if order(a, b) <= 0 else b


def greater(a, b):
    """Returns the greater one of two numbers."""
    return a if order(a, b) >= 0 else b


def whole_part(a):
    """Returns the greatest integer that is at most a."""
    return a[0] // a[1]


def total(values):
    """Returns the sum of a list."""
    result = ZERO
    for value in values:
        result = plus(result, value)
    return result


def products(first, second):
    """Returns the sum of the products of two lists of equal length."""
    return total([times(a, b) for a, b in zip(first, second)])


def read_fraction(text):
    """Returns the fraction of a text."""
    rows = text.removeprefix("-").split("/")
    if len(rows) > 2 or not all(_is_row_of_digits(row) for row in rows):
        raise InvalidNumber(text)
    numbers = [int(row) for row in rows]
    if 0 in numbers[1:]:
        raise InvalidNumber(text)
    result = fraction(*numbers)
    if text.startswith("-"):
        result = opposite(result)
    # Whatever a writer would write in another way is no text of a fraction.
    if show_fraction(result) != text:
        raise InvalidNumber(text)
    return result


def _is_row_of_digits(text):
    return 1 <= len(text) <= MOST_DIGITS_READ and all(letter in DIGITS for letter in text)


def show_fraction(a):
    """Returns the text of a fraction."""
    p, q = a
    if _is_long(p) or _is_long(q):
        raise TooLarge("digits")
    return str(p) if q == 1 else f"{p}/{q}"


def full_text(a):
    """Returns the text of a fraction, however many digits it has."""
    p, q = a
    return _digits(p) if q == 1 else f"{_digits(p)}/{_digits(q)}"


def _digits(number):
    """Returns an integer as it is written; Python itself refuses very long ones."""
    limit = 10 ** 60
    left = abs(number)
    pieces = []
    while left >= limit:
        left, piece = divmod(left, limit)
        pieces.append(str(piece).zfill(DIGITS_OF_PIECE))
    pieces.append(str(left) if number >= 0 else f"-{left}")
    return "".join(pieces[::-1])


def _is_long(number):
    """Tells whether a number has more digits than are shown."""
    # A number of 3000 bits has fewer than 1000 digits, as 10 has more than 3 bits.
    if number.bit_length() <= 3 * MOST_DIGITS_SHOWN:
        return False
    limit = 1
    for _ in range(MOST_DIGITS_SHOWN):
        limit = limit * 10
    return abs(number) >= limit
