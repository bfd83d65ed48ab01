"""The kinds of expressions, and the first place of a bond at which kinds do not fit.

Expressions may be nested deep (a long sum is), so they are gone through with a
stack of what is still to be entered or left.
"""

from consol.grammar import TIMED, first_part

KINDS_OF_WORDS = {
    "number": "count", "money": "money", "percent": "rate", "rate": "rate", "true": "truth", "false": "truth",
}
COMPARING = ("less", "atmost", "equal")
TRUTH_WORDS = ("not", "and", "or")
PRODUCTS = {("rate", "money"): "money", ("money", "rate"): "money", ("rate", "rate"): "rate"}


def kind_of(expression, facts, lets):
    """Returns the kind of an expression, or None if it does not fit."""
    known = {}
    for name, formula in lets:
        known[name] = _examine(formula, facts, known)[0]
    return _examine(expression, facts, known)[0]


def first_misfit(bond, facts):
    """Returns the first misfit of a bond, a pair (part, path), or None."""
    known = {}
    for at, (name, formula) in enumerate(bond.lets):
        kind, path = _examine(formula, facts, known)
        if kind is None:
            return (("let", at), path)
        known[name] = kind
    parts = [(("coupon",), bond.coupon, "rate")]
    parts.extend([(("promise", at), promise[1], "truth") for at, promise in enumerate(bond.promises)])
    for part, formula, wanted in parts:
        kind, path = _examine(formula, facts, known)
        if kind != wanted:
            return (part, path)
    return None


def _examine(expression, facts, known):
    """Returns the kind of an expression and the empty path, or None and the path of the first misfit in it."""
    kinds = []
    path = []
    due = [("enter", 0, expression)]
    while due:
        move, at, part = due.pop()
        first = first_part(part)
        if move == "enter":
            path.append(at)
            due.append(("leave", at, part))
            due.extend([("enter", k, part[k]) for k in reversed(range(first, len(part)))])
            continue
        cut = len(kinds) - (len(part) - first)
        kind = _joined_kind(part, kinds[cut:], facts, known)
        if kind is None:
            return None, tuple(path[1:])
        del kinds[cut:]
        kinds.append(kind)
        path.pop()
    return kinds[0], ()


def _joined_kind(expression, kinds, facts, known):
    """Returns the kind of an expression by those of its parts, which all fit; None if it does not fit."""
    word = expression[0]
    if word == "fact":
        return facts.get(expression[1])
    if word == "name":
        return known.get(expression[1])
    if word in KINDS_OF_WORDS:
        return KINDS_OF_WORDS[word]
    if word == "multiply":
        return _kind_of_product(*kinds)
    if word == "if":
        return kinds[1] if kinds[0] == "truth" and kinds[1] == kinds[2] else None
    if word in TRUTH_WORDS or word in TIMED:
        return "truth" if all(kind == "truth" for kind in kinds) else None
    if kinds[0] != kinds[1] or kinds[0] == "truth":
        return None
    return "truth" if word in COMPARING else kinds[0]


def _kind_of_product(first, second):
    if "truth" in (first, second):
        return None
    if first == "count":
        return second
    if second == "count":
        return first
    return PRODUCTS.get((first, second))
