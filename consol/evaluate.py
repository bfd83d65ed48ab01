"""The values of expressions, and watches that follow a truth from day to day.

An expression is first numbered: each part of it, and of the lets that it uses,
gets a number. Values are then found with a stack of what is due, because
expressions may be nested deep, and what may be asked for again is kept: so
neither lets that use lets nor timed parts within timed parts multiply the work.
"""

from consol.errors import MissingFact, MissingRate, UnknownLet
from consol.grammar import PLAIN, TIMED, first_part
from consol.ratios import greater, minus, order, over, plus, smaller, times

HUNDRED = (100, 1)


def value(expression, lets, day, facts, rates):
    """Returns the value of an expression on a day."""
    plan = Plan(expression, lets)
    return Reckoner(plan, Known(facts, rates)).reckon(plan.root, day)


def names_of(expression, lets):
    """Returns the ascending lists of the names of the facts and of the rates that occur."""
    plan = complete_plan(expression, lets)
    facts = [row[1] for row in plan.rows if row[0] == "fact"]
    rates = [row[1] for row in plan.rows if row[0] == "rate"]
    return sorted(facts), sorted(rates)


def complete_plan(expression, lets):
    """Returns the plan of an expression in which every let that is used is known."""
    plan = Plan(expression, lets)
    if plan.unknown:
        raise UnknownLet(plan.unknown[0])
    return plan


class Plan:
    """The parts of an expression and of the lets that it uses, each with a number.

    Equal parts have one number, and what a part consists of has lesser numbers.
    The row of a part is its tuple, with numbers in place of the parts in it.
    """

    def __init__(self, expression, lets):
        self.rows = []
        self.numbers = {}
        self.roots = {}
        self.unknown = []
        self.formulas = dict(lets)
        self.root = self._numbered(expression)

    def _numbered(self, expression):
        found = []
        due = [(expression, None)]
        while due:
            part, many = due.pop()
            if many is None:
                inner = self._inner(part)
                due.append((part, len(inner)))
                due.extend([(piece, None) for piece in inner[::-1]])
            else:
                cut = len(found) - many
                numbers = found[cut:]
                del found[cut:]
                found.append(self._finished(part, numbers))
        return found[0]

    def _inner(self, part):
        """Returns the parts of a part; that of a let, where it is met first, is its expression."""
        if part[0] == "name" and part[1] in self.formulas:
            return (self.formulas.pop(part[1]),)
        return part[first_part(part):]

    def _finished(self, part, numbers):
        """Returns the number of a part by the numbers of the parts in it."""
        head = part[:first_part(part)]
        row = (*head, *numbers)
        if part[0] == "name":
            row = part
            if numbers:
                self.roots[part[1]] = numbers[0]
            elif part[1] not in self.roots:
                self.unknown.append(part[1])
        number = self.numbers.setdefault(row, len(self.rows))
        if number == len(self.rows):
            self.rows.append(row)
        return number


class Known:
    """The facts and the rates of all days, as lists."""

    def __init__(self, facts, rates):
        self.facts = facts
        self.rates = rates

    def fact(self, name, day):
        """Returns the value of a fact on a day."""
        if day >= len(self.facts.get(name, [])):
            raise MissingFact(name, day)
        return self.facts[name][day]

    def rate(self, name, day):
        """Returns the rate of a bond on a day."""
        if day >= len(self.rates.get(name, [])):
            raise MissingRate(name, day)
        return self.rates[name][day]


class KnownToday:
    """The facts and the rates of one day."""

    def __init__(self, facts, rates):
        self.facts = facts
        self.rates = rates

    def fact(self, name, day):
        """Returns the value of a fact on the day."""
        if name not in self.facts:
            raise MissingFact(name, day)
        return self.facts[name]

    def rate(self, name, day):
        """Returns the rate of a bond on the day."""
        if name not in self.rates:
            raise MissingRate(name, day)
        return self.rates[name]


class Reckoner:
    """Finds the values of the parts of a plan, each only as far as it is needed.

    What is due is a stack of tuples (step, number, day, look): to "begin" with a
    part, to "keep" its value, or else to go on with the part of that word, since
    a value that it needs has been found; look is the day that a timed part looks
    at. A value of None ends the search; values themselves never are None.
    """

    def __init__(self, plan, known):
        self.plan = plan
        self.known = known
        self.due = []
        self.found = []
        self.results = {}

    def reckon(self, number, day):
        """Returns the value of a part on a day."""
        self.due.append(("begin", number, day, day))
        while self.due:
            step, at, on, look = self.due.pop()
            if step == "begin":
                self._begin(at, on)
            elif step == "keep":
                self.results[(at, on)] = self.found[-1]
            else:
                self._go_on(self.plan.rows[at], at, on, look)
            if self.found and self.found[-1] is None:
                return None
        return self.found.pop()

    def _begin(self, number, day):
        row = self.plan.rows[number]
        if (number, day) in self.results:
            self.found.append(self.results[(number, day)])
        elif row[0] == "name":
            self._begin_let(row[1], day)
        elif row[0] in PLAIN:
            self.found.append(self.plain(row, day))
        elif row[0] in TIMED:
            self._begin_timed(row, number, day)
        elif row[0] == "if":
            self.due.append(("if", number, day, day))
            self.decide(row[1], day)
        else:
            self.due.append((row[0], number, day, day))
            if row[0] not in ("not", "and", "or"):
                self.due.append(("begin", row[2], day, day))
            self.due.append(("begin", row[1], day, day))

    def _begin_let(self, name, day):
        if name not in self.plan.roots:
            raise UnknownLet(name)
        self._begin_kept(self.plan.roots[name], day)

    def _begin_timed(self, row, number, day):
        if row[0] != "before":
            self._look_on(row, number, day, max(0, day - row[1] + 1))
        elif day < row[1]:
            self.found.append(False)
        else:
            self._begin_kept(row[2], day - row[1])

    def _look_on(self, row, number, day, look):
        """Goes on with a timed part from a day on."""
        # Days on which it is known to be uncertain are passed by at once, since there may be hundreds of them.
        uncertain = row[0] == "always"
        while look < day and self.results.get((row[2], look)) == uncertain:
            look = look + 1
        self.due.append((row[0], number, day, look))
        self._begin_kept(row[2], look)

    def _begin_kept(self, number, day):
        """Begins with a part that may be asked for again on this day."""
        self.due.append(("keep", number, day, day))
        self.due.append(("begin", number, day, day))

    def _go_on(self, row, number, day, look):
        latest = self.found.pop()
        if row[0] == "not":
            self.found.append(not latest)
        elif row[0] == "if":
            self.due.append(("begin", row[2] if latest else row[3], day, day))
        elif row[0] in ("and", "or"):
            if latest == (row[0] == "or"):
                self.found.append(latest)
            else:
                self.due.append(("begin", row[2], day, day))
        elif row[0] in TIMED:
            if latest == (row[0] == "ever") or look == day:
                self.found.append(latest)
            else:
                self._look_on(row, number, day, look + 1)
        else:
            self.found.append(self.joined(row[0], self.found.pop(), latest))

    def decide(self, number, day):
        """Finds the first part of an `if`."""
        self.due.append(("begin", number, day, day))

    def plain(self, row, day):
        """Returns the value of a part that has no parts."""
        if row[0] == "fact":
            return self.known.fact(row[1], day)
        if row[0] == "rate":
            return self.known.rate(row[1], day)
        if row[0] in ("true", "false"):
            return row[0] == "true"
        return over(row[1], HUNDRED) if row[0] == "percent" else row[1]

    def joined(self, word, first, second):
        """Returns the value of a part by those of its two parts."""
        if word == "add":
            return plus(first, second)
        if word == "subtract":
            return minus(first, second)
        if word == "multiply":
            return times(first, second)
        if word == "min":
            return smaller(first, second)
        if word == "max":
            return greater(first, second)
        if word == "less":
            return order(first, second) < 0
        if word == "atmost":
            return order(first, second) <= 0
        return order(first, second) == 0


class Watch:
    """Follows a truth from day to day, and keeps no facts of past days."""

    def __init__(self, expression, lets):
        self.plan = complete_plan(expression, lets)
        self.days = 0
        # Inner parts have lesser numbers, so the timed parts stand with the inner ones first.
        self.truths = {number: [] for number, row in enumerate(self.plan.rows) if row[0] in TIMED}

    @property
    def next_day(self):
        """The number of days that the watch was given."""
        return self.days

    def step(self, facts, rates):
        """Gives the watch the next day, and returns the value on it."""
        result, truths = self.look(facts, rates)
        self.accept(truths)
        return result

    def look(self, facts, rates):
        """Returns the value on the next day, and the truths to keep from then on; nothing has changed yet."""
        reckoner = Reckoner(self.plan, KnownToday(facts, rates))
        truths = {}
        for number, past in self.truths.items():
            word, days, truth = self.plan.rows[number]
            latest = [*past, reckoner.reckon(truth, self.days)]
            truths[number] = latest[-days:]
            reckoner.results[(number, self.days)] = _timed_value(word, days, past, truths[number])
        return reckoner.reckon(self.plan.root, self.days), truths

    def accept(self, truths):
        """Moves on by the day that look has looked at."""
        self.truths = truths
        self.days = self.days + 1

    def kept(self):
        """Returns the number of truths that the watch keeps."""
        return sum(len(past) for past in self.truths.values())


def _timed_value(word, days, past, latest):
    """Returns a timed value by the truths of the last days without today, and with it."""
    if word == "ever":
        return any(latest)
    if word == "always":
        return all(latest)
    return len(past) == days and past[0]
