"""What was cleared on a day, and the check that it was cleared rightly."""

from consol.claims import Claims, are_paid
from consol.errors import InvalidClaims
from consol.steps import accepts_steps


class Record:
    """What was cleared on a day."""

    def __init__(self, day, issuers, cash, owners, debts, totals, steps, paid):
        self.day = day
        self.issuers = list(issuers)
        self.cash = list(cash)
        self.owners = list(owners)
        self.debts = list(debts)
        self.totals = list(totals)
        self.steps = [(list(members), list(reached)) for members, reached in steps]
        self.paid = list(paid)


def copied(record):
    """Returns a record of the same attributes, with lists of its own."""
    return Record(record.day, record.issuers, record.cash, record.owners, record.debts, record.totals, record.steps,
                  record.paid)


def is_right(record):
    """Tells whether the steps of a record are accepted, and its totals pay what was paid."""
    try:
        claims = Claims(record.cash, record.debts)
    except InvalidClaims:
        return False
    return accepts_steps(claims, record.totals, record.steps) and are_paid(claims, record.totals, record.paid)
