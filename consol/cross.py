"""Bonds that fall into default because other bonds of their issuer are in default."""

from consol.errors import UnknownBond
from consol.ratios import fraction, order, times, total


def size(bond):
    """Returns the number of units of a bond times its face."""
    return times(fraction(bond.units), bond.face)


def defaults(bonds, own, exempt=()):
    """Returns the names of the bonds in default, in the order of the bonds."""
    _check_names(bonds, [*own, *exempt])
    fallen = {name: True for name in own}
    while True:
        lost = [bond for bond in bonds if bond.name in fallen]
        safe = [bond for bond in bonds if bond.name not in fallen and bond.name not in exempt]
        bound = [bond.name for bond in safe if _is_bound(bond, lost)]
        if not bound:
            return [bond.name for bond in lost]
        for name in bound:
            fallen[name] = True


def cause_row(bonds, own, exempt, name):
    """Returns the least one of the shortest cause rows of a bond, or None if it is not in default."""
    _check_names(bonds, [*own, *exempt, name])
    fallen = defaults(bonds, own, exempt)
    if name not in fallen:
        return None
    issuer = [bond.issuer for bond in bonds if bond.name == name][0]
    # Bonds of other issuers bind nothing here, so a shortest row has none of them.
    mates = sorted([bond for bond in bonds if bond.issuer == issuer and bond.name in fallen], key=_name_of)
    rows = [[]]
    ended = []
    while not ended:
        rows = _longer_rows(mates, own, rows)
        ended = [row for row in rows if row[-1] == name]
    return ended[0]


def _longer_rows(mates, own, rows):
    """Returns, in order, the rows that have one bond more, the least one for each set of bonds.

    The rows and the bonds come in order. What can follow a row depends on its set alone.
    """
    longer = {}
    for row in rows:
        before = [bond for bond in mates if bond.name in row]
        for bond in mates:
            if bond.name not in row and (bond.name in own or _is_bound(bond, before)):
                longer.setdefault(tuple(sorted([*row, bond.name])), [*row, bond.name])
    return list(longer.values())


def _name_of(bond):
    return bond.name


def _is_bound(bond, others):
    """Tells whether a bond is bound if the others are in default."""
    if bond.cross is None:
        return False
    return order(total([size(other) for other in others if other.issuer == bond.issuer]), bond.cross) > 0


def _check_names(bonds, names):
    known = {bond.name: True for bond in bonds}
    for name in names:
        if name not in known:
            raise UnknownBond(name)
