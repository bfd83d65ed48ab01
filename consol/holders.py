"""Who holds the units of a bond, through nominees, and how holders vote."""

from consol.errors import (
    DuplicateAccount, InvalidDay, InvalidShare, InvalidUnits, NotAHolder, NotANominee, NotNoted, NoVote, TooDeep,
    TooFew, UnknownAccount,
)
from consol.ratios import fraction, order, sign, times

MOST_ABOVE = 3
ONE = (1, 1)


class Holders:
    """The accounts of one bond, and the notes of what they held."""

    def __init__(self, issuer, units):
        self.issuer = issuer
        self.units = units
        # For each account the nominees above it, and for each holder what it holds.
        self.chains = {issuer: []}
        self.holdings = {issuer: units}
        self.notes = {}
        self.last_noted = -1
        # What a note keeps while nothing is moved, or None where it is to be found anew.
        self.picture = None

    def open_account(self, name, *, under=None, nominee=False):
        """Opens an account that holds nothing."""
        if name in self.chains:
            raise DuplicateAccount(name)
        chain = []
        if under is not None:
            if not self.is_nominee(under):
                raise NotANominee(under)
            chain = [*self.chains[under], under]
        if len(chain) > MOST_ABOVE:
            raise TooDeep()
        self.chains[name] = chain
        if not nominee:
            self.holdings[name] = 0

    def move(self, source, target, units):
        """Moves units from one holder to another one."""
        for name in (source, target):
            self._check_account(name)
        for name in (source, target):
            self._check_holder(name)
        if units < 1 or source == target:
            raise InvalidUnits()
        if self.holdings[source] < units:
            raise TooFew(source, self.holdings[source])
        self.holdings[source] = self.holdings[source] - units
        self.holdings[target] = self.holdings[target] + units
        self.picture = None

    def accounts(self):
        """Returns the names of the accounts in the order in which they were opened."""
        return list(self.chains)

    def is_nominee(self, name):
        """Tells whether an account is a nominee's."""
        self._check_account(name)
        return name not in self.holdings

    def above(self, name):
        """Returns the nominees above an account, the outermost one first."""
        self._check_account(name)
        return list(self.chains[name])

    def held(self, name):
        """Returns what an account holds."""
        if not self.is_nominee(name):
            return self.holdings[name]
        return sum(units for holder, units in self.holdings.items() if name in self.chains[holder])

    def note(self, day):
        """Notes what all accounts hold at this moment."""
        if day <= self.last_noted:
            raise InvalidDay()
        if self.picture is None:
            held = [(name, self.held(name)) for name in self.chains]
            self.picture = [(name, units) for name, units in held if units > 0]
        self.notes[day] = self.picture
        self.last_noted = day

    def noted_days(self):
        """Returns the days on which the holders were noted."""
        return list(self.notes)

    def noted(self, day):
        """Returns what the accounts held that held something on a noted day."""
        if day not in self.notes:
            raise NotNoted(day)
        return list(self.notes[day])

    def entitled(self, day, amount):
        """Returns what each holder is entitled to of an amount."""
        return [(name, money) for name, money in self.passed(day, amount) if name in self.holdings]

    def passed(self, day, amount):
        """Returns what each account is entitled to of an amount."""
        return [(name, times(amount, fraction(units, self.units))) for name, units in self.noted(day)]

    def tally(self, day, votes):
        """Returns the units for a change, those against it, and the others that are not the issuer's."""
        units = dict(self.noted(day))
        for_and_against = {True: 0, False: 0}
        voted = {self.issuer: True}
        for name, choice in votes:
            self._check_account(name)
            self._check_holder(name)
            if name in voted:
                raise NoVote(name)
            voted[name] = True
            for_and_against[choice] = for_and_against[choice] + units.get(name, 0)
        yes = for_and_against[True]
        no = for_and_against[False]
        return (yes, no, self.units - units.get(self.issuer, 0) - yes - no)

    def is_taken(self, day, votes, share):
        """Tells whether a share of the units suffices to take a change."""
        if sign(share) <= 0 or order(share, ONE) > 0:
            raise InvalidShare()
        numbers = self.tally(day, votes)
        return numbers[0] > 0 and order(fraction(numbers[0]), times(share, fraction(sum(numbers)))) >= 0

    def _check_account(self, name):
        if name not in self.chains:
            raise UnknownAccount(name)

    def _check_holder(self, name):
        if name not in self.holdings:
            raise NotAHolder(name)
