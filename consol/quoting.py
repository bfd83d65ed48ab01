"""Which bonds quote which ones, and the groups in which their rates are found."""

from consol.errors import DuplicateBond, UnknownBond
from consol.evaluate import names_of


def quoted(bond):
    """Returns the ascending list of the names of the bonds that a bond quotes."""
    return names_of(bond.coupon, bond.lets)[1]


def groups(bonds):
    """Returns the groups of the bonds, each behind all groups on which it depends."""
    quotes = _quotes(bonds)
    reached = {name: _reached(quotes, name) for name in quotes}
    waiting = []
    for name in sorted(quotes):
        members = [other for other in reached[name] if name in reached[other]]
        # The least member stands for its group.
        if not members or min(members) >= name:
            waiting.append(sorted(set(members + [name])))
    listed = []
    while waiting:
        chosen = _first_ready(waiting, quotes)
        waiting.remove(chosen)
        listed.append(chosen)
    return listed


def is_ring(bonds, names):
    """Tells whether a group of the bonds is a ring."""
    if len(names) > 1:
        return True
    return any(bond.name in quoted(bond) for bond in bonds if bond.name in names)


def _quotes(bonds):
    """Returns a dict from the names of the bonds to the lists of the bonds that they quote."""
    names = {}
    for bond in bonds:
        if bond.name in names:
            raise DuplicateBond(bond.name)
        names[bond.name] = True
    quotes = {bond.name: quoted(bond) for bond in bonds}
    for bond in bonds:
        for name in quotes[bond.name]:
            if name not in quotes:
                raise UnknownBond(name)
    return quotes


def _reached(quotes, start):
    """Returns a dict with all bonds to which a chain of one or more quotes leads."""
    found = {}
    due = list(quotes[start])
    while due:
        name = due.pop()
        if name not in found:
            found[name] = True
            due.extend(quotes[name])
    return found


def _first_ready(waiting, quotes):
    """Returns the first one of the waiting groups that depends on no other one of them.

    The groups wait in the order of their least names.
    """
    places = {name: at for at, names in enumerate(waiting) for name in names}
    needs = [[places[other] for name in names for other in quotes[name] if other in places] for names in waiting]
    return [names for at, names in enumerate(waiting) if all(place == at for place in needs[at])][0]
