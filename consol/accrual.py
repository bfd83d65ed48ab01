"""Parts of a year between days, accrued shares and interest."""

from consol.dates import date_of, month_length
from consol.errors import InvalidDay, InvalidWord
from consol.ratios import ZERO, fraction, minus, over, plus, times

DIVISORS = {"fixed": 365, "thirty": 360, "plain": 12}


def part(count, start, end):
    """Returns the part of a year between two days, as the count says."""
    if count not in DIVISORS:
        raise InvalidWord(count)
    if start < 0 or start > end:
        raise InvalidDay()
    difference = minus(_number_of(count, end), _number_of(count, start))
    return over(difference, fraction(DIVISORS[count]))


def share(count, start, end, day):
    """Returns the accrued share of a period at a day."""
    whole = part(count, start, end)
    if day < start or day > end or whole == ZERO:
        raise InvalidDay()
    return over(part(count, start, day), whole)


def interest(principal, rate, count, start, end):
    """Returns the interest of a period."""
    return times(times(principal, rate), part(count, start, end))


def interests(principal, rate, count, days):
    """Returns the list of the interests of the successive days of a list."""
    return [interest(principal, rate, count, start, end) for start, end in zip(days, days[1:])]


def _number_of(count, day):
    """Returns the number that a count gives to a day."""
    if count == "fixed":
        return fraction(day)
    year, month, number = date_of(day)
    if count == "thirty":
        return fraction(360 * year + 30 * month + min(number, 30))
    return plus(fraction(12 * year + month), fraction(number - 1, month_length(month)))
