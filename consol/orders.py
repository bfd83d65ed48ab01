"""The lines that an office obeys, one function for each of them.

Each is given what the office keeps and the words of the line, and that of a line
on a bond the kept bond, too. It returns the answer, and checks everything before
it changes anything.
"""

from consol.course import run_days
from consol.due import may_be_called
from consol.errors import InvalidNumber, TextError, TooDeep, TooFew, TooLarge
from consol.grammar import is_name
from consol.keeping import WORLD
from consol.kinds import first_misfit
from consol.quoting import quoted
from consol.ratios import DIGITS, full_text, opposite, order, read_fraction, sign
from consol.texts import MOST_LINES, read_bond, same_bond, with_terms_of

KINDS = ("money", "rate", "count")
MOST_BONDS = 8
MOST_ISSUERS = 5
MOST_ACCOUNTS = 7
MOST_DAYS = 400
ONE = (1, 1)
# How many words a line has; those of `text` may be more, and two lines may name a nominee.
COUNTS = {
    "fact": 3, "know": 3, "text": 2, "drop": 1, "issue": 1, "open": 3, "nominee": 3, "move": 5, "give": 3, "recall": 2,
    "propose": 2, "vote": 4, "decide": 3, "days": 2,
}


def answer_to(state, line):
    """Obeys a line, and returns the answer."""
    words = line.split(" ")
    if "" in words or words[0] not in COUNTS:
        return _refused("word")
    if not _has_right_count(words):
        return _refused("count")
    if words[0] in ORDERS:
        obey = ORDERS[words[0]]
        return obey(state, words)
    if words[1] not in state.bonds:
        return _refused("unknown")
    obey_on = BOND_ORDERS[words[0]]
    return obey_on(state, state.bonds[words[1]], words)


def _has_right_count(words):
    usual = COUNTS[words[0]]
    if words[0] == "text":
        return len(words) >= usual
    if words[0] in ("open", "nominee") and words[usual:usual + 1] == ["under"]:
        return len(words) == usual + 2
    return len(words) == usual


def _refused(reason):
    return f"refused {reason}"


def _declare_fact(state, words):
    name = words[1]
    if state.day > 0:
        return _refused("late")
    if not is_name(name):
        return _refused("name")
    if name in state.kinds:
        return _refused("taken")
    if words[2] not in KINDS:
        return _refused("kind")
    state.kinds[name] = words[2]
    state.facts[name] = []
    return "fact"


def _know(state, words):
    name = words[1]
    if name not in state.kinds:
        return _refused("unknown")
    number = _fraction_of(words[2])
    if number is None or (sign(number) < 0 and state.kinds[name] == "money"):
        return _refused("number")
    state.known[name] = number
    return "known"


def _write(state, words):
    if len(state.draft) >= MOST_LINES:
        return _refused("full")
    state.draft.append(" ".join(words[1:]))
    return f"lines {len(state.draft)}"


def _drop(state, words):
    state.draft = []
    return "dropped"


def _issue(state, words):
    if state.day > 0:
        return _refused("late")
    bond, reason = _read_draft(state)
    if bond is None:
        return _refused(reason)
    if bond.name in state.bonds:
        return _refused("taken")
    if len(state.bonds) >= MOST_BONDS:
        return _refused("full")
    if bond.issuer not in state.issuers and len(state.issuers) >= MOST_ISSUERS:
        return _refused("full")
    if first_misfit(bond, state.kinds) is not None:
        return _refused("misfit")
    state.add_bond(bond)
    state.draft = []
    return f"issued {bond.name}"


def _open_holder(state, kept, words):
    return _open_account(state, kept.holders, words, False)


def _open_nominee(state, kept, words):
    return _open_account(state, kept.holders, words, True)


def _open_account(state, holders, words, nominee):
    name = words[2]
    under = words[4] if len(words) > 4 else None
    if not is_name(name):
        return _refused("name")
    if name in holders.accounts():
        return _refused("taken")
    if len(holders.accounts()) >= MOST_ACCOUNTS:
        return _refused("full")
    if under is not None and not (under in holders.accounts() and holders.is_nominee(under)):
        return _refused("under")
    try:
        holders.open_account(name, under=under, nominee=nominee)
    except TooDeep:
        return _refused("deep")
    if not nominee:
        state.add_money_account(name)
    return "opened"


def _move(state, kept, words):
    units = _integer_of(words[4])
    if units is None:
        return _refused("number")
    if not kept.is_holder(words[2]) or not kept.is_holder(words[3]) or words[2] == words[3]:
        return _refused("account")
    try:
        kept.holders.move(words[2], words[3], units)
    except TooFew:
        return _refused("few")
    return "moved"


def _give(state, words):
    name = words[1]
    if name not in state.books.accounts():
        return _refused("unknown")
    number = _fraction_of(words[2])
    if number is None or sign(number) <= 0:
        return _refused("number")
    state.books.post(state.day, [(WORLD, opposite(number)), (name, number)])
    return f"has {full_text(state.books.balance(name))}"


def _recall(state, kept, words):
    if state.stage(words[1]) not in ("good", "grace"):
        return _refused("stage")
    if not may_be_called(kept.bond, state.day):
        return _refused("call")
    if kept.recalled:
        return _refused("taken")
    kept.recalled = True
    return "recalled"


def _propose(state, kept, words):
    bond, reason = _read_draft(state)
    if bond is None:
        return _refused(reason)
    if not same_bond(with_terms_of(bond, kept.bond), kept.bond):
        return _refused("other")
    if first_misfit(bond, state.kinds) is not None:
        return _refused("misfit")
    if kept.proposal is not None:
        return _refused("taken")
    if state.day == 0:
        return _refused("early")
    kept.proposal = bond
    state.draft = []
    return "proposed"


def _vote(state, kept, words):
    if kept.proposal is None:
        return _refused("none")
    if words[3] not in ("yes", "no"):
        return _refused("word")
    if not kept.is_holder(words[2]):
        return _refused("account")
    if words[2] == kept.bond.issuer or words[2] in [name for name, _ in kept.votes]:
        return _refused("twice")
    kept.votes.append((words[2], words[3] == "yes"))
    return "voted"


def _decide(state, kept, words):
    if kept.proposal is None:
        return _refused("none")
    share = _fraction_of(words[2])
    if share is None or sign(share) <= 0 or order(share, ONE) > 0:
        return _refused("number")
    yes, no, rest = kept.holders.tally(state.day - 1, kept.votes)
    taken = kept.holders.is_taken(state.day - 1, kept.votes, share)
    if taken:
        state.change_bond(words[1], kept.proposal)
    kept.proposal = None
    kept.votes = []
    word = "taken" if taken else "rejected"
    return f"{word} {yes} {no} {rest}"


def _run(state, words):
    number = _integer_of(words[1])
    if number is None or number > MOST_DAYS:
        return _refused("number")
    for name in state.kinds:
        if name not in state.known:
            return _refused(f"fact {name}")
    for kept in state.all_bonds():
        for name in quoted(kept.bond):
            if name not in state.bonds:
                return _refused(f"bond {name}")
    return run_days(state, number)


def _read_draft(state):
    """Returns the bond of the draft, or None, and the reason why it is none."""
    try:
        return read_bond("\n".join(state.draft)), ""
    except TextError as error:
        return None, f"text {error.line} {error.column} {error.reason}"
    except TooLarge:
        return None, "large"


def _fraction_of(text):
    """Returns the fraction of a text, or None if it is none."""
    try:
        return read_fraction(text)
    except InvalidNumber:
        return None


def _integer_of(text):
    """Returns the integer of at least 1 of a text, or None if it is none."""
    if not all(letter in DIGITS for letter in text) or text[0] == "0":
        return None
    return int(text)


ORDERS = {
    "fact": _declare_fact, "know": _know, "text": _write, "drop": _drop, "issue": _issue, "give": _give, "days": _run,
}
BOND_ORDERS = {
    "open": _open_holder, "nominee": _open_nominee, "move": _move, "recall": _recall, "propose": _propose,
    "vote": _vote, "decide": _decide,
}
