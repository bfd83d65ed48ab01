"""Reports of an office, and how an auditor checks its lines and answers."""

from consol.claims import Claims, limit_of
from consol.causes import row_of_causes
from consol.daily import is_right
from consol.errors import UnknownAccount
from consol.keeping import WORLD
from consol.office import Office
from consol.ratios import ZERO, full_text, order, plus, sign, total


def issuer_report(office, name):
    """Returns the report of an issuer."""
    if name not in office.issuers():
        raise UnknownAccount(name)
    lines = [f"issuer {name} has {full_text(office.balance(name))}"]
    for bond_name in office.bonds():
        bond = office.bond(bond_name)
        if bond.issuer == name:
            own = dict(office.held(bond_name))[name]
            lines.append(f"bond {bond_name} {office.stage(bond_name)} out {bond.units - own}")
    for record in office.records():
        lines.extend(_shortfalls(record, record.issuers.index(name)))
    return lines


def holder_report(office, name):
    """Returns the report of a holder."""
    units = _units_of_holder(office, name)
    if not units:
        raise UnknownAccount(name)
    lines = [f"holder {name} has {full_text(office.balance(name))}"]
    lines.extend([f"bond {bond} units {held}" for bond, held in units if held > 0])
    for record in office.records():
        for at, (bond, holder) in enumerate(record.owners):
            if holder == name:
                lines.append(f"day {record.day} {bond} {_owed_and_paid(record, at)}")
    return lines


def day_report(office, day):
    """Returns the report of a day."""
    lines = []
    for record in office.records():
        if record.day == day:
            for at, (bond, holder) in enumerate(record.owners):
                issuer = record.issuers[record.debts[at][0]]
                lines.append(f"{issuer} {bond} {holder} {_owed_and_paid(record, at)}")
    return lines


def faults(lines):
    """Returns the faults of an office that obeys the lines; there never are any."""
    office = _obeying(lines)
    found = [f"steps {record.day}" for record in office.records() if not is_right(record)]
    balances = {}
    for day, entries in office.postings():
        for name, amount in entries:
            balances[name] = plus(balances.get(name, ZERO), amount)
        if not _is_sound(balances):
            found.append(f"money {day}")
    return found


def first_difference(lines, answers):
    """Returns the first index at which the answers are not those of the lines, or None."""
    told = _obeying(lines).answers()
    for at, (own, other) in enumerate(zip(told, answers)):
        if own != other:
            return at
    return None if len(told) == len(answers) else min(len(told), len(answers))


def _obeying(lines):
    """Returns a new office that has obeyed the lines."""
    office = Office()
    for line in lines:
        office.obey(line)
    return office


def _shortfalls(record, issuer):
    """Returns the line on an issuer that is short in a record, or none."""
    claims = Claims(record.cash, record.debts)
    limit = limit_of(claims, issuer)
    amount = record.totals[issuer]
    if order(amount, limit) >= 0:
        return []
    causes = " ".join(record.issuers[cause] for cause in row_of_causes(claims, issuer))
    return [f"day {record.day} paid {full_text(amount)} of {full_text(limit)} because {causes}"]


def _units_of_holder(office, name):
    """Returns the pairs (bond, units) of the bonds that have a holder's account of this name."""
    found = []
    for bond in office.bonds():
        held = dict(office.held(bond))
        if name in held and not office.is_nominee(bond, name):
            found.append((bond, held[name]))
    return found


def _owed_and_paid(record, at):
    return f"owed {full_text(record.debts[at][3])} paid {full_text(record.paid[at])}"


def _is_sound(balances):
    """Tells whether balances sum to 0, and none but that of the world is below 0."""
    low = [name for name, balance in balances.items() if sign(balance) < 0 and name != WORLD]
    return not low and total(list(balances.values())) == ZERO
