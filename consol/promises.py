"""Whether the promises of a bond are kept, and for how long they have been broken."""

from consol.evaluate import Known, Plan, Reckoner, Watch, value


def is_kept(bond, index, day, facts, rates):
    """Tells whether a promise is kept on a day."""
    return value(bond.promises[index][1], bond.lets, day, facts, rates)


def age(bond, index, day, facts, rates):
    """Returns on how many successive days up to a day a promise is broken."""
    plan = Plan(bond.promises[index][1], bond.lets)
    # One reckoner for all days, since timed parts of successive days look at the same days.
    reckoner = Reckoner(plan, Known(facts, rates))
    first = day
    while first >= bond.first_day and not reckoner.reckon(plan.root, first):
        first = first - 1
    return day - first


class Follower:
    """Follows the promises of a bond from day to day, from day 0 on."""

    def __init__(self, bond):
        self.first_day = bond.first_day
        self.graces = [promise[2] for promise in bond.promises]
        self.watches = [Watch(promise[1], bond.lets) for promise in bond.promises]
        self.days = 0
        self.counted = [0 for _ in self.graces]

    def step(self, facts, rates):
        """Gives it the facts and the rates of the next day."""
        self.accept(self.look(facts, rates))

    def look(self, facts, rates):
        """Returns what the next day brings, for accept; nothing has changed yet."""
        return [watch.look(facts, rates) for watch in self.watches]

    def accept(self, found):
        """Moves on by the day that look has looked at."""
        for at, (kept, truths) in enumerate(found):
            self.watches[at].accept(truths)
            counts = self.days >= self.first_day and not kept
            self.counted[at] = self.counted[at] + 1 if counts else 0
        self.days = self.days + 1

    def ages(self):
        """Returns the ages of the promises on the last day."""
        return list(self.counted)

    def failed(self):
        """Returns the indexes of the promises that fail on the last day."""
        return [at for at, grace in enumerate(self.graces) if self.counted[at] > grace]

    def stage(self):
        """Returns the stage as far as the promises say it."""
        if self.days <= self.first_day:
            return "waiting"
        if self.failed():
            return "default"
        return "grace" if any(self.counted) else "good"
