"""Books: accounts, and postings that move money between them."""

from consol.errors import AccountTaken, InvalidDay, Unbalanced, UnknownAccount
from consol.ratios import ZERO, plus, total


class Books:
    """Accounts with their statements, and all postings."""

    def __init__(self):
        self.posted = []
        self.statements = {}

    @property
    def latest_day(self):
        """The day of the last posting, or -1 if there is none."""
        return self.posted[-1][0] if self.posted else -1

    def open_account(self, name):
        """Adds an account with the balance 0."""
        if name == "" or name in self.statements:
            raise AccountTaken(name)
        self.statements[name] = []

    def post(self, day, entries):
        """Adds a posting, and returns its number."""
        if day < 0 or day < self.latest_day:
            raise InvalidDay()
        sums = {}
        for name, amount in entries:
            self._check(name)
            sums[name] = plus(sums.get(name, ZERO), amount)
        rest = total(list(sums.values()))
        if rest != ZERO:
            raise Unbalanced(rest)
        number = len(self.posted)
        self.posted.append((day, [(name, amount) for name, amount in entries]))
        for name, amount in sums.items():
            self.statements[name].append((day, number, amount, plus(self.balance(name), amount)))
        return number

    def balance(self, name):
        """Returns the sum of all amounts of an account."""
        self._check(name)
        return self.statements[name][-1][3] if self.statements[name] else ZERO

    def balance_on(self, name, day):
        """Returns the sum of the amounts of an account up to a day."""
        self._check(name)
        until = [row[3] for row in self.statements[name] if row[0] <= day]
        return until[-1] if until else ZERO

    def statement(self, name):
        """Returns the tuples (day, number, amount, balance) of the postings of an account."""
        self._check(name)
        return list(self.statements[name])

    def accounts(self):
        """Returns the names of the accounts in the order in which they were opened."""
        return list(self.statements)

    def postings(self):
        """Returns the postings, tuples (day, entries)."""
        return [(day, list(entries)) for day, entries in self.posted]

    def _check(self, name):
        if name not in self.statements:
            raise UnknownAccount(name)
