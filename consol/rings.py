"""The rates of bonds on a day, also of those that quote each other in a ring."""

from consol.errors import MissingRate, NoSingleRate, NotStraight
from consol.evaluate import Known, Plan, Reckoner
from consol.quoting import groups
from consol.ratios import ZERO, minus, plus, times
from consol.systems import ONE, kernel_list, solution

MINUS_ONE = (-1, 1)


def form_of(expression, lets, day, facts, rates, ring):
    """Returns the form of an expression, a pair (factors, rest), or None if it is not straight."""
    return _form(Plan(expression, lets), {}, ring, KnownBefore(facts, rates, day, ring))


def ring_system(bonds, ring, day, facts, rates):
    """Returns the lists of the factors of the bonds of a ring, and the list of their rests."""
    return _system(_plans(bonds), ring, _known_before(bonds, day, facts, rates))


def ring_rates(bonds, ring, day, facts, rates):
    """Returns the rates of the bonds of a ring."""
    return _solution(_plans(bonds), ring, _known_before(bonds, day, facts, rates))


def rates_of_day(bonds, day, facts, rates):
    """Returns a dict from the names of all bonds to their rates on a day."""
    return RateFinder(bonds).rates_of(day, facts, rates)


class RateFinder:
    """Finds the rates of some bonds on one day after another.

    What it has found of earlier days is kept, so their facts and rates must stay.
    """

    def __init__(self, bonds):
        self.sought = [bond.name for bond in bonds]
        self.groups = groups(bonds)
        self.plans = _plans(bonds)

    def rates_of(self, day, facts, rates):
        """Returns a dict from the names of the bonds to their rates on a day."""
        known = KnownBefore(facts, rates, day, self.sought)
        for names in self.groups:
            # The form of a bond that is no ring has no factors, and its value as the rest.
            for name, rate in zip(names, _solution(self.plans, names, known)):
                known.today[name] = rate
        return known.today

    def group_of(self, name):
        """Returns the group to which a bond belongs."""
        return [names for names in self.groups if name in names][0]


class KnownBefore(Known):
    """What is known on a day on which the rates of some bonds are looked for.

    Of these bonds only the rates of earlier days count, and those of the day
    that have been found already.
    """

    def __init__(self, facts, rates, day, sought):
        super().__init__(facts, rates)
        self.day = day
        self.sought = sought
        self.today = {}

    def rate(self, name, day):
        """Returns the rate of a bond on a day."""
        if day != self.day or name not in self.sought:
            return super().rate(name, day)
        if name not in self.today:
            raise MissingRate(name, day)
        return self.today[name]


class FormReckoner(Reckoner):
    """Finds forms in place of values, and None for what is not straight."""

    def __init__(self, plan, known, ring, truths):
        super().__init__(plan, known)
        self.ring = ring
        reckoner = Reckoner(plan, known)
        reckoner.results = truths
        self.truths = reckoner

    def decide(self, number, day):
        """Finds the first part of an `if`, a value, or None if it needs a rate that is looked for."""
        try:
            self.found.append(self.truths.reckon(number, day))
        except MissingRate as missing:
            if missing.name not in self.ring or missing.day != day:
                raise
            self.found.append(None)

    def plain(self, row, day):
        """Returns the form of a part that has no parts."""
        if row[0] == "rate" and row[1] in self.ring:
            return {row[1]: ONE}, ZERO
        return {}, super().plain(row, day)

    def joined(self, word, first, second):
        """Returns the form of a part by those of its two parts."""
        if word == "add":
            return _sum_of_forms(first, second)
        if word == "subtract":
            return _sum_of_forms(first, _multiple(second, MINUS_ONE))
        if word == "multiply" and not first[0]:
            return _multiple(second, first[1])
        if word == "multiply" and not second[0]:
            return _multiple(first, second[1])
        if first[0] or second[0]:
            return None
        return {}, super().joined(word, first[1], second[1])


def _known_before(bonds, day, facts, rates):
    return KnownBefore(facts, rates, day, [bond.name for bond in bonds])


def _plans(bonds):
    """Returns, for each name of a bond, the plan of its coupon and the values that are kept of its parts."""
    return {bond.name: (Plan(bond.coupon, bond.lets), {}) for bond in bonds}


def _form(plan, truths, ring, known):
    return FormReckoner(plan, known, ring, truths).reckon(plan.root, known.day)


def _sum_of_forms(first, second):
    factors = dict(first[0])
    for name, factor in second[0].items():
        factors[name] = plus(factors.get(name, ZERO), factor)
    return {name: factor for name, factor in factors.items() if factor != ZERO}, plus(first[1], second[1])


def _multiple(form, number):
    factors = {name: times(factor, number) for name, factor in form[0].items() if number != ZERO}
    return factors, times(form[1], number)


def _system(plans, ring, known):
    rows = []
    rests = []
    for name in ring:
        plan, truths = plans[name]
        form = _form(plan, truths, ring, known)
        if form is None:
            raise NotStraight(name)
        rows.append([form[0].get(other, ZERO) for other in ring])
        rests.append(form[1])
    return rows, rests


def _solution(plans, ring, known):
    """Returns the rates of a ring, the only solution of its system."""
    factors, rests = _system(plans, ring, known)
    rows = []
    for at, row in enumerate(factors):
        rows.append([minus(ONE if at == k else ZERO, factor) for k, factor in enumerate(row)])
    answer = solution(rows, rests, len(ring))
    if answer[0] != "one":
        raise NoSingleRate(list(ring), kernel_list(rows, len(ring)))
    return answer[1]
