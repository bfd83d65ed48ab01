"""The calendar: days, dates, business days, months and schedules."""

from consol.errors import InvalidDay, InvalidWord

DAYS_OF_YEAR = 365
DAYS_OF_WEEK = 7
LAST_BUSINESS = 4
MONTHS_OF_YEAR = 12
LENGTHS = (31, 28, 31, 30, 31, 30, 31, 31, 30, 31, 30, 31)
ADJUSTING_WORDS = ("none", "next", "before", "modified")


def date_of(day):
    """Returns the date (year, month, number) of a day."""
    _check_day(day)
    year, left = divmod(day, DAYS_OF_YEAR)
    month = 1
    while left >= month_length(month):
        left = left - month_length(month)
        month = month + 1
    return (year, month, left + 1)


def day_of(year, month, number):
    """Returns the day of a date."""
    length = month_length(month)
    if year < 0 or number < 1 or number > length:
        raise InvalidDay()
    return DAYS_OF_YEAR * year + sum(LENGTHS[:month - 1]) + number - 1


def weekday(day):
    """Returns the weekday, from 0 to 6."""
    _check_day(day)
    return day % DAYS_OF_WEEK


def is_business(day):
    """Tells whether a day is a business day."""
    return weekday(day) <= LAST_BUSINESS


def month_length(month):
    """Returns the number of days of a month."""
    if month < 1 or month > MONTHS_OF_YEAR:
        raise InvalidDay()
    return LENGTHS[month - 1]


def adjust(day, word):
    """Returns the day that a word makes of a day."""
    _check_word(word)
    if is_business(day) or word == "none":
        return day
    following = day - weekday(day) + DAYS_OF_WEEK
    earlier = day - weekday(day) + LAST_BUSINESS
    if word == "before":
        return earlier
    if word == "modified" and _month_of(following) != _month_of(day):
        return earlier
    return following


def add_months(day, count):
    """Returns the day that is a number of months later."""
    if count < 0:
        raise InvalidDay()
    year, month, number = date_of(day)
    months = MONTHS_OF_YEAR * year + month - 1 + count
    month = months % MONTHS_OF_YEAR + 1
    return day_of(months // MONTHS_OF_YEAR, month, min(number, month_length(month)))


def schedule(start, end, months):
    """Returns the list of the start, the days reached by months, and the end."""
    if start < 0 or start >= end or months < 1:
        raise InvalidDay()
    days = []
    day = start
    count = 0
    while day < end:
        days.append(day)
        count = count + months
        # Counted from the start, since a short month would shift all later days.
        day = add_months(start, count)
    return [*days, end]


def periods(start, end, months, word):
    """Returns the list of the periods (start, end, pay day) of a schedule."""
    _check_word(word)
    days = schedule(start, end, months)
    return [(first, last, adjust(last, word)) for first, last in zip(days, days[1:])]


def _check_day(day):
    if day < 0:
        raise InvalidDay()


def _check_word(word):
    if word not in ADJUSTING_WORDS:
        raise InvalidWord(word)


def _month_of(day):
    year, month, _ = date_of(day)
    return (year, month)
