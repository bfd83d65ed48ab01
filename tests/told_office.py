"""An office as the document tells it, found anew on every day; for comparing. And lines for it."""

from fractions import Fraction

from consol.claims import Claims, paid
from consol.clearing import greatest_clearing
from consol.cross import defaults
from consol.due import falls_due
from consol.errors import NoSingleRate, NotStraight
from consol.promises import age
from consol.quoting import groups
from consol.rings import rates_of_day
from consol.texts import read_bond
from helping import draft


class ToldOffice:
    """Follows the lines that were not refused. What it tells of days, it finds from the beginning."""

    def __init__(self):
        self.day = 0
        self.known, self.facts, self.rates = {}, {}, {}
        self.draft, self.bonds, self.issuers = [], {}, []
        self.held, self.nominees, self.notes = {}, {}, {}
        self.money = {"the world": Fraction(0)}
        self.recalled, self.ended, self.fallen, self.missed = set(), {}, {}, {}
        self.proposals, self.votes, self.stages = {}, {}, {}
        self.records = {}

    def obey(self, line):
        """Obeys a line that is not refused, and returns the answer where the document tells more than a word."""
        words = line.split(" ")
        return getattr(self, "do_" + words[0])(*words[1:])

    def do_fact(self, name, kind):
        self.facts[name] = []

    def do_know(self, name, number):
        self.known[name] = Fraction(number)

    def do_text(self, *words):
        self.draft.append(" ".join(words))

    def do_drop(self):
        self.draft = []

    def do_issue(self):
        bond = read_bond("\n".join(self.draft))
        self.draft = []
        self.bonds[bond.name] = bond
        self.rates[bond.name] = []
        self.held[bond.name] = {bond.issuer: bond.units}
        self.nominees[bond.name] = []
        self.notes[bond.name] = []
        self.stages[bond.name] = "waiting"
        self.money.setdefault(bond.issuer, Fraction(0))
        self.issuers += [bond.issuer] if bond.issuer not in self.issuers else []
        return f"issued {bond.name}"

    def do_open(self, bond, name, *_):
        self.held[bond][name] = 0
        self.money.setdefault(name, Fraction(0))

    def do_nominee(self, bond, name, *_):
        self.nominees[bond].append(name)

    def do_move(self, bond, source, target, units):
        self.held[bond][source] -= int(units)
        self.held[bond][target] += int(units)

    def do_give(self, name, number):
        self.money[name] += Fraction(number)
        self.money["the world"] -= Fraction(number)
        return f"has {self.money[name]}"

    def do_recall(self, bond):
        self.recalled.add(bond)

    def do_propose(self, bond):
        self.proposals[bond] = read_bond("\n".join(self.draft))
        self.votes[bond] = {}
        self.draft = []

    def do_vote(self, bond, name, word):
        self.votes[bond][name] = word

    def do_decide(self, bond, share):
        units = self.notes[bond][-1]
        issuer = self.bonds[bond].issuer
        numbers = [sum(units.get(name, 0) for name, word in self.votes[bond].items() if word == told)
                   for told in ("yes", "no")]
        everybody = self.bonds[bond].units - units[issuer]
        taken = numbers[0] > 0 and numbers[0] >= Fraction(share) * everybody
        if taken:
            self.bonds[bond] = self.proposals[bond]
        del self.proposals[bond], self.votes[bond]
        return f"{'taken' if taken else 'rejected'} {numbers[0]} {numbers[1]} {everybody - sum(numbers)}"

    def do_days(self, number):
        days = 0
        owed = payments = Fraction(0)
        fallen, closed, ring = [], [], None
        while days < int(number):
            for name, row in self.facts.items():
                row.append(self.known[name].as_integer_ratio())
            bonds = list(self.bonds.values())
            try:
                rates = rates_of_day(bonds, self.day, self.facts, self.rates)
            except (NotStraight, NoSingleRate) as error:
                name = error.name if isinstance(error, NotStraight) else error.ring[0]
                ring = [names for names in groups(bonds) if name in names][0][0]
                for row in self.facts.values():
                    row.pop()
                break
            for name, rate in rates.items():
                self.rates[name].append(rate)
            for name in self.bonds:
                self.notes[name].append(dict(self.held[name]))
            fallen += self.find_stages()
            self.pay(closed)
            owed += sum(debt[3] for debt in self.records.get(self.day, []))
            payments += sum(debt[4] for debt in self.records.get(self.day, []))
            days += 1
            self.day += 1
            self.recalled = set()
        words = [f"days {days}"] + ([f"owed {owed} paid {payments}"] if owed else [])
        words += [" ".join(["default", *fallen])] if fallen else []
        words += [" ".join(["closed", *closed])] if closed else []
        return " ".join(words + ([f"stopped ring {ring}"] if ring else []))

    def find_stages(self):
        """Finds the stages of the day, and returns the bonds that fall into default on it."""
        names = list(self.bonds)
        exempt = [name for name in names if name in self.ended or self.day < self.bonds[name].first_day]
        ages = {name: [age(bond, at, self.day, self.facts, self.rates) for at in range(len(bond.promises))]
                for name, bond in self.bonds.items()}
        failing = [name for name in names if any(
            told > promise[2] for told, promise in zip(ages[name], self.bonds[name].promises))]
        own = [name for name in names if name not in exempt
               and (name in failing or name in self.fallen or self.missed.get(name, self.day) < self.day)]
        lost = defaults(list(self.bonds.values()), own, exempt)
        news = [name for name in lost if name not in self.fallen]
        for name in names:
            if name in lost:
                self.stages[name] = "default"
            elif name in self.ended:
                self.stages[name] = "closed"
            elif name in exempt:
                self.stages[name] = "waiting"
            else:
                self.stages[name] = "grace" if any(ages[name]) else "good"
        for name in news:
            self.fallen[name] = self.day
        return news

    def pay(self, closed):
        rows = []
        for name, bond in self.bonds.items():
            if self.day < bond.first_day or name in self.ended or self.fallen.get(name, self.day) < self.day:
                continue
            event = "default" if name in self.fallen else "call" if name in self.recalled and self.callable(bond) else None
            told = dict(enumerate(self.rates[name]))
            amounts = {}
            due = falls_due(bond, self.day, told, event=event)
            for word, amount in due:
                on = max(self.day - bond.record, bond.first_day) if word in ("coupon", "principal") else self.day
                for holder, units in self.notes[name][on].items():
                    part = Fraction(*amount) * units
                    if holder != bond.issuer and part > 0:
                        amounts[holder] = amounts.get(holder, 0) + part
            rows += [(name, holder, amounts[holder]) for holder in self.held[name] if holder in amounts]
            if event == "call" or "principal" in dict(due):
                self.ended[name] = self.day
                closed.append(name)
        if rows:
            self.clear(rows)

    def callable(self, bond):
        return self.day in dict(bond.calls)

    def clear(self, rows):
        debts = []
        for name, holder, amount in rows:
            bond = self.bonds[name]
            creditor = self.issuers.index(holder) if holder in self.issuers else None
            debts.append((self.issuers.index(bond.issuer), bond.rank, creditor, amount.as_integer_ratio()))
        claims = Claims([self.money[name].as_integer_ratio() for name in self.issuers], debts)
        payments = [Fraction(*amount) for amount in paid(claims, greatest_clearing(claims))]
        self.records[self.day] = []
        for (name, holder, amount), payment in zip(rows, payments):
            issuer = self.bonds[name].issuer
            self.money[issuer] -= payment
            self.money[holder] += payment
            self.records[self.day].append((issuer, name, holder, amount, payment))
            if payment < amount:
                self.missed.setdefault(name, self.day)


BONDS = "vwxyz"
ISSUERS = ["aa", "bb", "cc"]
HOLDERS = ["ann", "bob", "aa", "bb"]


def some_terms(chance, names):
    """The terms of the text of a bond that quotes others."""
    other = chance.choice(names)
    first = chance.choice([0, 0, 1, 5, 20])
    last = first + chance.choice([1, 7, 40, 40, 90, 150])
    calls = sorted(chance.sample(range(first + 1, last), min(last - first - 1, chance.randint(0, 25))))
    return {
        "units": chance.choice([1, 10, 10, 100]), "face": chance.choice(["1", "10", "5/2", "0"]),
        "days": f"{first} to {last}", "months": chance.choice([1, 1, 2, 7]),
        "count": chance.choice(["fixed", "thirty", "plain"]), "adjust": chance.choice(["none", "next", "modified", "before"]),
        "record": chance.choice([0, 0, 3, 30]), "rank": chance.choice([0, 0, 1, 5]),
        "coupon": chance.choice([
            "12 percent", "fact base", f"1/4 * rate {other} + 1 percent", f"1/2 * rate {other} + fact base",
            f"if ever 3 (fact low > 1) then fact base else 1/3 * rate {other}", "0 percent - fact base",
            f"max(fact base, rate {other})" if chance.random() < 0.2 else "2 * fact base",
            f"rate {other} + 1 percent" if chance.random() < 0.2 else "3 * fact base",
        ]),
        "promises": some_promises(chance, names), "cross": chance.choice([None, None, "0", "9", "30", "100"]),
        "calls": [f"{day} at {chance.choice(['0', '9', '11'])}" for day in calls],
    }


def some_promises(chance, names):
    formulas = ["fact low < 2", "always 4 (fact low < 2)", f"rate {chance.choice(names)} < 20 percent", "not before 3 (fact low = 2)",
                "ever 9 (fact low = 0)", "fact cash >= $3"]
    return [f"{name} must {formula} grace {chance.choice([0, 1, 3, 9, 40])}"
            for name, formula in zip("abc", chance.sample(formulas, chance.choice([0, 1, 1, 2])))]


def some_lines(chance, days):
    """Lines for an office, some of which will be refused."""
    lines = ["fact base rate", "fact low count", "fact cash money", "know base 1/10", "know low 0", "know cash 5"]
    terms = {}
    names = chance.sample(BONDS, chance.randint(2, 5))
    for name in names:
        terms[name] = some_terms(chance, names + ["q"] * (chance.random() < 0.05))
        issuer = chance.choice(ISSUERS)
        terms[name]["issuer"] = issuer
        lines += [*draft(name, **terms[name]), "issue", "drop"]
        lines += [f"nominee {name} bank"] if chance.random() < 0.5 else []
        for holder in chance.sample(HOLDERS, chance.randint(1, 3)):
            under = chance.choice(["", "", " under bank"])
            lines += [f"open {name} {holder}{under}", f"move {name} {issuer} {holder} {chance.choice([1, 3, 5, 40])}"]
    for issuer in ISSUERS:
        lines += [f"give {issuer} {chance.choice([1, 20, 100, 1000])}"] if chance.random() < 0.7 else []
    for _ in range(days):
        lines += some_step(chance, terms)
    return lines


def some_step(chance, terms):
    name = chance.choice(list(terms))
    holder = chance.choice(HOLDERS)
    dice = chance.random()
    if dice < 0.45:
        return [f"days {chance.choice([1, 1, 2, 5, 9, 20])}"]
    if dice < 0.53:
        return [chance.choice(["know low 0", "know low 2", "know low 2", "know base 1/50", "know base 1/4",
                               "know base -1/9", "know cash 2", "know cash 4"])]
    if dice < 0.65:
        return [f"move {name} {holder} {chance.choice(HOLDERS)} {chance.choice([1, 2, 7])}"]
    if dice < 0.72:
        return [f"recall {other}" for other in terms]
    if dice < 0.77:
        return [f"give {chance.choice(ISSUERS)} {chance.choice(['1', '7/3', '50'])}"]
    if dice < 0.8:
        return [f"open {name} {holder}"]
    changed = {**terms[name], "promises": some_promises(chance, list(terms)),
               "cross": chance.choice([None, "0", "50"])}
    if chance.random() < 0.5:
        changed["calls"] = changed["calls"][:1]
    votes = [f"vote {name} {voter} {chance.choice(['yes', 'yes', 'no'])}" for voter in HOLDERS if chance.random() < 0.8]
    middle = [f"days {chance.randint(1, 3)}"] if chance.random() < 0.3 else []
    return ["drop", *draft(name, **changed), f"propose {name}", *middle, *votes,
            f"decide {name} {chance.choice(['1/10', '1/2', '1'])}"]
