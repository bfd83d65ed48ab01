"""Who is short and why, and what would help."""

from consol.claims import limit_of, limits_of, paid
from consol.clearing import greatest_clearing
from consol.ratios import ZERO, greater, minus, order, plus, sign, total


def is_weak(claims, issuer):
    """Tells whether an issuer is short even if everybody else pays in full."""
    return sign(_lack(claims, issuer)) > 0


def short_issuers(claims):
    """Returns the ascending list of the short issuers."""
    totals = greatest_clearing(claims)
    return [issuer for issuer, limit in enumerate(limits_of(claims)) if order(totals[issuer], limit) < 0]


def hurts(claims, first, second):
    """Tells whether an issuer does not pay another one in full."""
    return second in _hurt_ones(claims)[first]


def row_of_causes(claims, issuer):
    """Returns the least one of the shortest rows of causes of an issuer, or None if it is not short."""
    if issuer not in short_issuers(claims):
        return None
    hurt = _hurt_ones(claims)
    rows = [[cause] for cause in range(len(hurt)) if is_weak(claims, cause)]
    reached = [row[-1] for row in rows]
    # The rows of one length stand in their order as lists, so the first one that reaches an issuer is the least.
    while issuer not in reached:
        longer = []
        for row in rows:
            for other in hurt[row[-1]]:
                if other not in reached:
                    reached.append(other)
                    longer.append([*row, other])
        rows = longer
    return [row for row in rows if row[-1] == issuer][0]


def rescue(claims):
    """Returns the least amounts of further cash with which everybody pays in full."""
    return [greater(_lack(claims, issuer), ZERO) for issuer in range(len(claims.cash))]


def _lack(claims, issuer):
    """Returns the limit of an issuer minus all that it has if everybody pays in full."""
    owed = total([debt[3] for debt in claims.debts if debt[2] == issuer])
    return minus(limit_of(claims, issuer), plus(claims.cash[issuer], owed))


def _hurt_ones(claims):
    """Returns, for each issuer, the ascending list of those that it hurts."""
    amounts = paid(claims, greatest_clearing(claims))
    found = [[] for _ in claims.cash]
    for debt, amount in zip(claims.debts, amounts):
        if debt[2] is not None and order(amount, debt[3]) < 0 and debt[2] not in found[debt[0]]:
            found[debt[0]].append(debt[2])
    return [sorted(others) for others in found]
