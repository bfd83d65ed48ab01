"""What an office keeps: facts, bonds with their holders, books, and the current day."""

from consol.books import Books
from consol.due import pay_days
from consol.holders import Holders
from consol.promises import Follower

WORLD = "the world"


class KeptBond:
    """A bond of the office, and all that is known of it."""

    def __init__(self, bond):
        self.bond = bond
        self.holders = Holders(bond.issuer, bond.units)
        self.follower = Follower(bond)
        self.rates = []
        self.pay_days = pay_days(bond)
        # What the promises said on the last day that was run.
        self.condition = "waiting"
        self.missed = False
        self.fallen = False
        # The day on which it was called or paid back.
        self.ended = None
        self.recalled = False
        self.proposal = None
        self.votes = []

    def stage(self, day):
        """Returns the stage on a day, the last one that was run."""
        if self.fallen:
            return "default"
        if self.ended is not None and self.ended < day:
            return "closed"
        return self.condition

    def is_holder(self, name):
        """Tells whether a name is a holder's account of the bond."""
        return name in self.holders.accounts() and not self.holders.is_nominee(name)


class Keeping:
    """All that an office keeps."""

    def __init__(self):
        self.day = 0
        # The kinds of the declared facts, their values from now on, and those of the days that were run.
        self.kinds = {}
        self.known = {}
        self.facts = {}
        self.draft = []
        self.bonds = {}
        self.issuers = []
        self.books = Books()
        self.records = []
        # What is kept for finding the rates of the next day, if there is anything.
        self.finder = None
        self.books.open_account(WORLD)

    def all_bonds(self):
        """Returns the kept bonds in the order of issue."""
        return list(self.bonds.values())

    def stage(self, name):
        """Returns the stage of a bond."""
        return self.bonds[name].stage(self.day - 1)

    def add_bond(self, bond):
        """Keeps a bond, and its holders as they are at the beginning."""
        self.bonds[bond.name] = KeptBond(bond)
        if bond.issuer not in self.issuers:
            self.issuers.append(bond.issuer)
        self.add_money_account(bond.issuer)

    def add_money_account(self, name):
        """Sees to it that a name has an account in the books."""
        if name not in self.books.accounts():
            self.books.open_account(name)

    def change_bond(self, name, bond):
        """Gives a kept bond a new text."""
        kept = self.bonds[name]
        kept.bond = bond
        # Its promises count from the bond's first day on: follow() gives it the days that were run.
        kept.follower = Follower(bond)

    def follow(self, kept):
        """Gives the follower of a bond all days up to the current one that it was not given."""
        first = kept.follower.days
        for day in range(first, self.day):
            facts = {name: row[day] for name, row in self.facts.items()}
            rates = {other.bond.name: other.rates[day] for other in self.all_bonds()}
            kept.follower.step(facts, rates)
