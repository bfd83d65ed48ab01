"""The office, which obeys lines."""

from consol.daily import copied
from consol.errors import InvalidLine, UnknownBond
from consol.journal import is_line, lines_of
from consol.keeping import Keeping
from consol.orders import answer_to
from consol.texts import copied_bond

LONGEST_LINE = 200


class Office:
    """A debt office: all that it keeps follows from the lines that it was given."""

    def __init__(self):
        self.state = Keeping()
        self.given = []
        self.replies = []

    def obey(self, line):
        """Obeys a line, and returns the answer."""
        if len(line) > LONGEST_LINE or not is_line(line):
            raise InvalidLine()
        answer = answer_to(self.state, line)
        self.given.append(line)
        self.replies.append(answer)
        return answer

    def lines(self):
        """Returns the lines that were obeyed, refused ones included."""
        return list(self.given)

    def answers(self):
        """Returns the answers to the lines."""
        return list(self.replies)

    def current_day(self):
        """Returns the next day to be run."""
        return self.state.day

    def bonds(self):
        """Returns the names of the bonds in the order of issue."""
        return list(self.state.bonds)

    def issuers(self):
        """Returns the issuers in the order in which they had their first bond."""
        return list(self.state.issuers)

    def bond(self, name):
        """Returns the bond as it is now."""
        return copied_bond(self._known_bond(name).bond)

    def stage(self, name):
        """Returns the stage of a bond."""
        self._known_bond(name)
        return self.state.stage(name)

    def rates(self, name):
        """Returns the rates of a bond, day by day."""
        return list(self._known_bond(name).rates)

    def held(self, name):
        """Returns the pairs (account, units) of the accounts of a bond."""
        holders = self._known_bond(name).holders
        return [(account, holders.held(account)) for account in holders.accounts()]

    def is_nominee(self, name, account):
        """Tells whether an account of a bond is a nominee's."""
        return self._known_bond(name).holders.is_nominee(account)

    def accounts(self):
        """Returns the names of the money accounts."""
        return self.state.books.accounts()

    def balance(self, name):
        """Returns the balance of a money account."""
        return self.state.books.balance(name)

    def statement(self, name):
        """Returns the statement of a money account."""
        return self.state.books.statement(name)

    def postings(self):
        """Returns all postings."""
        return self.state.books.postings()

    def records(self):
        """Returns the records of the days with debts."""
        return [copied(record) for record in self.state.records]

    def _known_bond(self, name):
        if name not in self.state.bonds:
            raise UnknownBond(name)
        return self.state.bonds[name]


def replay(text):
    """Returns a new office that has obeyed the lines of a text."""
    office = Office()
    for line in lines_of(text):
        office.obey(line)
    return office
