"""What issuers owe on one day, what they have, and what totals pay."""

from consol.errors import InvalidClaims
from consol.ratios import ZERO, greater, is_fraction, minus, order, over, plus, sign, smaller, times, total

MOST_ISSUERS = 8
MOST_DEBTS = 60
RANKS = 6


class Claims:
    """The cash of some issuers, and their debts (debtor, rank, creditor, amount)."""

    def __init__(self, cash, debts):
        if len(cash) < 1 or len(cash) > MOST_ISSUERS:
            raise InvalidClaims("issuers")
        if not all(_is_money(amount) for amount in cash):
            raise InvalidClaims("cash")
        if len(debts) > MOST_DEBTS:
            raise InvalidClaims("debts")
        if not all(_is_debt(debt, len(cash)) for debt in debts):
            raise InvalidClaims("debt")
        self.cash = list(cash)
        self.debts = list(debts)


def limit_of(claims, issuer):
    """Returns the sum of the debts of an issuer."""
    return total([debt[3] for debt in claims.debts if debt[0] == issuer])


def size_of(claims, issuer, rank):
    """Returns the sum of the debts of one rank of an issuer."""
    return total([debt[3] for debt in claims.debts if debt[0] == issuer and debt[1] == rank])


def limits_of(claims):
    """Returns the limits of all issuers."""
    return [limit_of(claims, issuer) for issuer in range(len(claims.cash))]


def sizes_of(claims, issuer):
    """Returns the sizes of all ranks of an issuer."""
    return [size_of(claims, issuer, rank) for rank in range(RANKS)]


def paid(claims, totals):
    """Returns what each debt is paid by the totals of the issuers."""
    shares = [_shares_of_ranks(sizes_of(claims, issuer), amount) for issuer, amount in enumerate(totals)]
    return [times(amount, shares[debtor][rank]) for debtor, rank, creditor, amount in claims.debts]


def are_paid(claims, totals, amounts):
    """Tells whether the totals pay the debts these amounts."""
    return amounts == paid(claims, totals)


def has(claims, totals, issuer):
    """Returns the cash of an issuer and all that debts to it are paid."""
    return holdings(claims, totals)[issuer]


def holdings(claims, totals):
    """Returns what each issuer has."""
    held = list(claims.cash)
    for debt, amount in zip(claims.debts, paid(claims, totals)):
        if debt[2] is not None:
            held[debt[2]] = plus(held[debt[2]], amount)
    return held


def are_totals(claims, totals):
    """Tells whether there is one total for each issuer, from 0 to its limit."""
    if len(totals) != len(claims.cash):
        return False
    return all(sign(amount) >= 0 and order(amount, limit) <= 0 for amount, limit in zip(totals, limits_of(claims)))


def is_clearing(claims, totals):
    """Tells whether each total is the lesser one of the limit and what the issuer has."""
    if not are_totals(claims, totals):
        return False
    return totals == [smaller(limit, held) for limit, held in zip(limits_of(claims), holdings(claims, totals))]


def _shares_of_ranks(sizes, amount):
    """Returns the part of each rank that is paid by an issuer that pays an amount in all."""
    shares = []
    left = amount
    for size in sizes:
        here = smaller(greater(left, ZERO), size)
        shares.append(over(here, size) if size != ZERO else ZERO)
        left = minus(left, size)
    return shares


def _is_money(amount):
    return is_fraction(amount) and sign(amount) >= 0


def _is_debt(debt, issuers):
    if not isinstance(debt, tuple) or len(debt) != 4:
        return False
    debtor, rank, creditor, amount = debt
    if debtor not in range(issuers) or rank not in range(RANKS):
        return False
    if creditor is not None and (creditor == debtor or creditor not in range(issuers)):
        return False
    return _is_money(amount)
