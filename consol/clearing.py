"""The greatest clearing of claims, with the steps that show it.

Totals are lowered from the limits. Whoever has less than its total becomes a
member, and stays one. In a step the members pay what they have, in their open
ranks; who has less than its floor pays the floor, and its open rank is a lower
one in the next step. So each step but the last one is followed by a new member
or by a lower open rank, and there are no more steps than ranks.
"""

from consol.claims import holdings, limits_of, size_of
from consol.ratios import ZERO, minus, order, over, plus, sign, times, total
from consol.steps import endless_members, floor_of, open_rank
from consol.systems import ONE, solve


def clear(claims):
    """Returns the greatest clearing, and a list of steps that is accepted for it."""
    totals = limits_of(claims)
    steps = []
    members = []
    while True:
        held = holdings(claims, totals)
        lacking = [issuer for issuer, amount in enumerate(totals) if order(held[issuer], amount) < 0]
        if not lacking:
            return totals, steps
        members = sorted(set(members + lacking))
        step = _step(claims, totals, members)
        steps.append(step)
        totals = list(step[1])


def greatest_clearing(claims):
    """Returns the totals of the greatest clearing."""
    return clear(claims)[0]


def _step(claims, totals, members):
    """Returns the step in which the members pay what they have, but at least their floors."""
    floors = list(totals)
    for member in members:
        floors[member] = floor_of(claims, member, totals[member])
    held = holdings(claims, floors)
    gaps = {member: minus(held[member], floors[member]) for member in members}
    shares = _shares(claims, totals, members)
    above = _least_above(gaps, shares)
    reached = list(totals)
    for member in members:
        reached[member] = plus(floors[member], above[member])
    held = holdings(claims, reached)
    ended = [member for member in members if order(held[member], floors[member]) < 0]
    # Those that reach no end pay each other in circles, and have their old totals: they stay as they are.
    endless = endless_members(claims, totals, members, ended)
    for member in endless:
        reached[member] = totals[member]
    return [member for member in members if member not in endless], reached


def _shares(claims, totals, members):
    """Returns, by creditor and debtor, which part a member gets of what another one pays in its open rank."""
    shares = {(creditor, debtor): ZERO for creditor in members for debtor in members}
    ranks = {member: open_rank(claims, member, totals[member]) for member in members}
    for debtor, rank, creditor, amount in claims.debts:
        if (creditor, debtor) in shares and rank == ranks[debtor] and sign(amount) > 0:
            part = over(amount, size_of(claims, debtor, rank))
            shares[(creditor, debtor)] = plus(shares[(creditor, debtor)], part)
    return shares


def _least_above(gaps, shares):
    """Returns the least amounts, each the greater one of 0 and its gap plus its shares of the amounts.

    They are found from below: a member with an amount above 0 is found once, and
    the amounts of those that are found only grow. Therefore the found ones never
    pay each other in a circle that nothing leaves, and the system has one solution.
    """
    amounts = {member: ZERO for member in gaps}
    found = []
    while True:
        news = [member for member in gaps if member not in found and sign(_got(gaps, shares, amounts, member)) > 0]
        if not news:
            return amounts
        found = found + news
        rows = []
        for creditor in found:
            own = [ONE if debtor == creditor else ZERO for debtor in found]
            rows.append([minus(one, shares[(creditor, debtor)]) for one, debtor in zip(own, found)])
        answer = solve(rows, [gaps[member] for member in found])
        amounts.update(dict(zip(found, answer[1])))


def _got(gaps, shares, amounts, member):
    """Returns the gap of a member plus its shares of the amounts."""
    return plus(gaps[member], total([times(shares[(member, debtor)], amounts[debtor]) for debtor in amounts]))
