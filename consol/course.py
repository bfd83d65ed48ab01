"""Running days: what falls due, who has the money, and what is paid."""

from consol.claims import Claims, paid
from consol.clearing import clear
from consol.cross import defaults
from consol.daily import Record
from consol.due import falls_due, may_be_called, record_day, start_days
from consol.errors import MissingRate, NoSingleRate, NotStraight
from consol.ratios import ZERO, fraction, full_text, opposite, plus, sign, times, total
from consol.rings import RateFinder

PAID_BY_RECORD = ("coupon", "principal")


class Course:
    """The days that one line runs, and what its answer tells of them."""

    def __init__(self, state, most):
        self.most = most
        self.days = 0
        # The facts stay as they are on all of these days.
        self.facts = {name: row + [state.known[name]] * most for name, row in state.facts.items()}
        self.finder = state.finder
        if self.finder is None:
            self.finder = RateFinder([kept.bond for kept in state.all_bonds()])
        self.debts = []
        self.payments = []
        self.fallen = []
        self.closed = []
        self.ring = ""
        self.missing = ""


def run_days(state, most):
    """Runs up to so many days, and returns the answer."""
    course = Course(state, most)
    while course.days < course.most and _run_day(state, course):
        course.days = course.days + 1
    state.facts = {name: row[:state.day] for name, row in course.facts.items()}
    # A day that could not be run may have other facts, or even other bonds, when it is tried again.
    state.finder = course.finder if course.days == course.most else None
    if course.missing != "" and course.days == 0:
        return f"refused bond {course.missing}"
    return _answer(course)


def _answer(course):
    words = [f"days {course.days}"]
    if course.debts:
        words.append(f"owed {full_text(total(course.debts))} paid {full_text(total(course.payments))}")
    for word, names in (("default", course.fallen), ("closed", course.closed)):
        if names:
            words.extend([word, *names])
    if course.ring != "":
        words.append(f"stopped ring {course.ring}")
    return " ".join(words)


def _run_day(state, course):
    """Runs the current day, or returns False if it cannot be run; then nothing has changed."""
    facts = {name: row[state.day] for name, row in course.facts.items()}
    try:
        rates = course.finder.rates_of(state.day, course.facts, {k.bond.name: k.rates for k in state.all_bonds()})
        found = [_look(state, kept, facts, rates) for kept in state.all_bonds()]
    except NotStraight as crooked:
        course.ring = course.finder.group_of(crooked.name)[0]
        return False
    except NoSingleRate as loose:
        course.ring = loose.ring[0]
        return False
    except MissingRate as missing:
        # A promise needs the rate of what is no bond.
        course.missing = missing.name
        return False
    for kept, looked in zip(state.all_bonds(), found):
        kept.holders.note(state.day)
        kept.rates.append(rates[kept.bond.name])
        kept.follower.accept(looked)
        kept.condition = kept.follower.stage()
    _pay(state, course, _falling(state))
    for kept in state.all_bonds():
        kept.recalled = False
    state.day = state.day + 1
    return True


def _look(state, kept, facts, rates):
    """Returns what the current day brings for the promises of a bond."""
    state.follow(kept)
    return kept.follower.look(facts, rates)


def _falling(state):
    """Returns the names of the bonds that fall into default on the current day."""
    bonds = [kept.bond for kept in state.all_bonds()]
    exempt = [kept.bond.name for kept in state.all_bonds() if _is_exempt(kept, state.day)]
    lost = [kept for kept in state.all_bonds() if kept.fallen or kept.missed or kept.follower.failed()]
    own = [kept.bond.name for kept in lost if kept.bond.name not in exempt]
    return [name for name in defaults(bonds, own, exempt) if not state.bonds[name].fallen]


def _is_exempt(kept, day):
    """Tells whether a bond is waiting or closed on a day that is run."""
    return day < kept.bond.first_day or kept.ended is not None


def _pay(state, course, falling):
    """Finds what falls due on the current day, and pays it as far as there is money."""
    owners = []
    debts = []
    for kept in state.all_bonds():
        name = kept.bond.name
        if kept.fallen or _is_exempt(kept, state.day):
            continue
        event = _event(kept, state.day, falling)
        debtor = state.issuers.index(kept.bond.issuer)
        for holder, amount in _owed(kept, state.day, event):
            creditor = state.issuers.index(holder) if holder in state.issuers else None
            owners.append((name, holder))
            debts.append((debtor, kept.bond.rank, creditor, amount))
        if event == "default":
            kept.fallen = True
            course.fallen.append(name)
        elif event == "call" or state.day == kept.pay_days[-1]:
            kept.ended = state.day
            course.closed.append(name)
    if debts:
        record = _cleared(state, owners, debts)
        state.records.append(record)
        course.debts.extend([debt[3] for debt in debts])
        course.payments.extend(record.paid)


def _event(kept, day, falling):
    """Returns what happens to a bond on a day besides its coupons and its principal, or None."""
    if kept.bond.name in falling:
        return "default"
    # A new text may have taken back the day of the call.
    return "call" if kept.recalled and may_be_called(kept.bond, day) else None


def _owed(kept, day, event):
    """Returns the pairs (holder, amount) of what is owed on a bond on a day."""
    if event is None and day not in kept.pay_days:
        return []
    bond = kept.bond
    rates = {start: kept.rates[start] for start in start_days(bond) if start <= day}
    owed = {}
    for word, amount in falls_due(bond, day, rates, event=event):
        noted = record_day(bond, day) if word in PAID_BY_RECORD else day
        for name, money in kept.holders.entitled(noted, times(amount, fraction(bond.units))):
            if name != bond.issuer and sign(money) > 0:
                owed[name] = plus(owed.get(name, ZERO), money)
    return [(name, owed[name]) for name in kept.holders.accounts() if name in owed]


def _cleared(state, owners, debts):
    """Pays debts as far as there is money, and returns the record of it."""
    cash = [state.books.balance(name) for name in state.issuers]
    claims = Claims(cash, debts)
    totals, steps = clear(claims)
    payments = paid(claims, totals)
    entries = []
    for (name, holder), debt, amount in zip(owners, debts, payments):
        entries.extend([(state.issuers[debt[0]], opposite(amount)), (holder, amount)])
        if amount != debt[3]:
            kept = state.bonds[name]
            kept.missed = True
    state.books.post(state.day, entries)
    return Record(state.day, state.issuers, cash, owners, debts, totals, steps, payments)
