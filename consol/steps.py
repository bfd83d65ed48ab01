"""Steps that lead from the limits down to the greatest clearing, and their check.

The check does not ask how the steps were found: whoever made them, totals that
it accepts are the greatest clearing.
"""

from consol.claims import are_totals, holdings, is_clearing, limits_of, sizes_of
from consol.ratios import ZERO, greater, order, plus, sign, total


def open_rank(claims, issuer, amount):
    """Returns the rank in which the last part of a total is paid, or None at 0."""
    before = ZERO
    for rank, size in enumerate(sizes_of(claims, issuer)):
        until = plus(before, size)
        if order(before, amount) < 0 and order(amount, until) <= 0:
            return rank
        before = until
    return None


def floor_of(claims, issuer, amount):
    """Returns the sum of the sizes of the ranks before the open rank of a total."""
    rank = open_rank(claims, issuer, amount)
    return ZERO if rank is None else total(sizes_of(claims, issuer)[:rank])


def leads_on(claims, totals, step):
    """Tells whether a step leads on from the totals."""
    members, reached = step
    if not are_totals(claims, totals) or not are_totals(claims, reached):
        return False
    if members != sorted(set(members)) or any(not 0 <= member < len(totals) for member in members):
        return False
    held = holdings(claims, reached)
    floors = [floor_of(claims, issuer, before) for issuer, before in enumerate(totals)]
    for issuer, before in enumerate(totals):
        wanted = greater(floors[issuer], held[issuer]) if issuer in members else before
        if reached[issuer] != wanted or order(wanted, before) > 0:
            return False
    ended = [member for member in members if order(held[member], floors[member]) < 0]
    return endless_members(claims, totals, members, ended) == []


def endless_members(claims, totals, members, ended):
    """Returns the members of a step from the totals that reach no end.

    Some issuers are told to be ends, since they have less than their floors.
    """
    endless = [member for member in members if member not in ended]
    while True:
        left = [member for member in endless if _pays_only(claims, totals, member, endless)]
        if left == endless:
            return endless
        endless = left


def accepts_steps(claims, totals, steps):
    """Tells whether a list of steps is accepted for the totals."""
    reached = limits_of(claims)
    for step in steps:
        if not leads_on(claims, reached, step):
            return False
        reached = step[1]
    return reached == totals and is_clearing(claims, totals)


def _pays_only(claims, totals, issuer, creditors):
    """Tells whether an issuer has an open rank, and owes its debts of this rank to some issuers alone."""
    rank = open_rank(claims, issuer, totals[issuer])
    if rank is None:
        return False
    owed = [debt for debt in claims.debts if debt[0] == issuer and debt[1] == rank and sign(debt[3]) > 0]
    return all(debt[2] in creditors for debt in owed)
