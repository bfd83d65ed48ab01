"""What falls due on a bond: coupons, the principal, and what a call or a default brings."""

from consol.accrual import interest
from consol.dates import periods, schedule
from consol.errors import MissingRate, NoCall
from consol.ratios import total


def start_days(bond):
    """Returns the first days of the periods of a bond."""
    return schedule(bond.first_day, bond.last_day, bond.months)[:-1]


def pay_days(bond):
    """Returns the pay days of the periods of a bond."""
    return [period[2] for period in _paid_periods(bond)]


def accrued(bond, day, period_rates):
    """Returns the accrued amount of one unit on a day."""
    running = [period for period in _paid_periods(bond) if period[0] < day < period[2]]
    return total([_interest_until(bond, start, min(end, day), period_rates) for start, end, _ in running])


def may_be_called(bond, day):
    """Tells whether the issuer may call a bond on a day."""
    return day <= pay_days(bond)[-1] and day in dict(bond.calls)


def falls_due(bond, day, period_rates, *, event=None):
    """Returns the pairs (word, amount) of what falls due on one unit on a day."""
    if event == "call" and not may_be_called(bond, day):
        raise NoCall(bond.name, day)
    last_pay_day = pay_days(bond)[-1]
    # Ahead of its first day a bond is waiting, and behind its principal nothing falls due any more.
    if day < bond.first_day or day > last_pay_day:
        return []
    due = _coupons(bond, day, period_rates)
    if event == "call":
        due.append(("call", dict(bond.calls)[day]))
    elif event == "default":
        due.append(("default", bond.face))
    elif day == last_pay_day:
        due.append(("principal", bond.face))
    if event is not None:
        due.append(("accrued", accrued(bond, day, period_rates)))
    return due


def record_day(bond, day):
    """Returns the day whose holders are paid the coupons and the principal of a day."""
    return max(day - bond.record, bond.first_day)


def _paid_periods(bond):
    """Returns the periods of a bond, tuples (start, end, pay day)."""
    found = periods(bond.first_day, bond.last_day, bond.months, bond.adjust)
    return [(start, end, max(start, pay_day)) for start, end, pay_day in found]


def _coupons(bond, day, period_rates):
    """Returns the list of the pair for the coupons of a day, empty if it is no pay day."""
    paid = [period for period in _paid_periods(bond) if period[2] == day]
    coupons = [_interest_until(bond, start, end, period_rates) for start, end, _ in paid]
    return [("coupon", total(coupons))] if coupons else []


def _interest_until(bond, start, until, period_rates):
    """Returns the interest of one unit from the start of a period until a day."""
    if start not in period_rates:
        raise MissingRate(bond.name, start)
    return interest(bond.face, period_rates[start], bond.count, start, until)
