"""What the tests of the office share."""

from consol.errors import ConsolError
from consol.office import Office


def text_lines(name, issuer="state", *, units=10, face=100, days="0 to 400", months=12, count="fixed", adjust="none",
               record=0, rank=0, lets=(), coupon="10 percent", promises=(), cross=None, calls=()):
    """The lines of the text of a bond."""
    lines = [
        f"bond {name} by {issuer}", f"units {units} face {face}", f"from {days} every {months} months",
        f"count {count} adjust {adjust} record {record} rank {rank}",
    ]
    lines += [f"let {let}" for let in lets] + [f"coupon {coupon}"]
    lines += [f"promise {promise}" for promise in promises]
    lines += [] if cross is None else [f"cross {cross}"]
    return lines + [f"call {call}" for call in calls]


def draft(name, issuer="state", **terms):
    """The lines that make a draft of the text of a bond."""
    return [f"text {line}" for line in text_lines(name, issuer, **terms)]


def issue(name, issuer="state", **terms):
    """The lines that issue a bond."""
    return [*draft(name, issuer, **terms), "issue"]


def obey(office, *lines):
    """Obeys lines, none of which may be refused, and returns the answers."""
    answers = []
    for line in lines:
        answer = office.obey(line)
        assert not answer.startswith("refused"), (line, answer)
        answers.append(answer)
    return answers


def office_of(*lines):
    """An office that has obeyed lines, none of which may be refused."""
    office = Office()
    obey(office, *lines)
    return office


def picture(office):
    """All that an office tells, but the lines and the answers."""
    bonds = office.bonds()
    return {
        "day": office.current_day(),
        "bonds": [(name, vars(office.bond(name)), office.stage(name), office.rates(name), office.held(name),
                   [office.is_nominee(name, account) for account, _ in office.held(name)]) for name in bonds],
        "issuers": office.issuers(),
        "accounts": [(name, office.balance(name), office.statement(name)) for name in office.accounts()],
        "postings": office.postings(),
        "records": [vars(record) for record in office.records()],
    }


def error_of(call, *given, **more):
    """The class and the attributes of the error that a call raises, or None."""
    try:
        call(*given, **more)
    except ConsolError as error:
        return type(error), vars(error)
    return None
