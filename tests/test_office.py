"""Tests of consol.office, and of what the program promises over all (points 1 to 4 and 71 to 75)."""

import copy
import random
import unittest
from fractions import Fraction

from consol.claims import Claims
from consol.errors import InvalidLine, UnknownAccount, UnknownBond
from consol.journal import complete_part, lines_of, text_of
from consol.office import Office, replay
from consol.report import faults, first_difference
from consol.steps import accepts_steps
from consol.texts import Bond, same_bond
from helping import draft, error_of, issue, office_of, picture
from told_office import ToldOffice, some_lines

ZERO = (0, 1)


class Examples(unittest.TestCase):
    def test_example(self):
        office = Office()
        lines = ["bond x by state", "units 10 face 100", "from 0 to 59 every 1 months"]
        lines = lines + ["count thirty adjust none record 0 rank 0", "coupon 12 percent"]
        self.assertEqual([office.obey("text " + line) for line in lines],
                         ["lines 1", "lines 2", "lines 3", "lines 4", "lines 5"])
        self.assertEqual((office.obey("issue"), office.obey("open x ann"), office.obey("move x state ann 4")),
                         ("issued x", "opened", "moved"))
        self.assertEqual((office.obey("give state 6"), office.obey("days 31"), office.obey("days 1")),
                         ("has 6", "days 31", "days 1 owed 4 paid 4"))
        self.assertEqual((office.balance("ann"), office.obey("days 40"), office.stage("x")),
                         ((4, 1), "days 40 owed 404 paid 2 closed x", "closed"))
        self.assertEqual((office.obey("move x state ann 0"), office.obey("issue")), ("refused number", "refused late"))


def an_office():
    return office_of(
        *issue("x", days="0 to 59", months=1, count="thirty", coupon="12 percent"), *issue("w", "town", days="3 to 90"),
        "nominee x bank", "open x ann under bank", "open x town", "move x state ann 4", "move x state town 3",
        "give state 6", "days 32", "text a", "text b",
    )


class Questions(unittest.TestCase):
    def test_at_the_beginning(self):
        office = Office()
        self.assertEqual((office.lines(), office.answers(), office.current_day()), ([], [], 0))
        self.assertEqual((office.bonds(), office.issuers(), office.records(), office.postings()), ([], [], [], []))
        self.assertEqual((office.accounts(), office.balance("the world"), office.statement("the world")),
                         (["the world"], ZERO, []))

    def test_answers_to_questions(self):
        office = an_office()
        self.assertEqual((office.current_day(), office.bonds(), office.issuers()), (32, ["x", "w"], ["state", "town"]))
        self.assertEqual((office.stage("x"), office.stage("w")), ("good", "good"))
        self.assertEqual(office.rates("x"), [(3, 25)] * 32)
        self.assertEqual(office.held("x"), [("state", 3), ("bank", 4), ("ann", 4), ("town", 3)])
        self.assertEqual([office.is_nominee("x", name) for name, _ in office.held("x")], [False, True, False, False])
        self.assertEqual(office.accounts(), ["the world", "state", "town", "ann"])
        self.assertEqual([office.balance(name) for name in office.accounts()], [(-6, 1), ZERO, (18, 7), (24, 7)])
        self.assertEqual(office.statement("town"), [(31, 1, (18, 7), (18, 7))])
        self.assertEqual(len(office.postings()), 2)
        self.assertIsInstance(office.bond("x"), Bond)
        self.assertEqual((office.bond("w").first_day, office.bond("w").issuer), (3, "town"))
        record, = office.records()
        self.assertEqual((record.day, record.issuers, record.cash), (31, ["state", "town"], [(6, 1), ZERO]))
        self.assertEqual(record.owners, [("x", "ann"), ("x", "town")])
        self.assertEqual(record.debts, [(0, 0, None, (4, 1)), (0, 0, 1, (3, 1))])
        self.assertEqual((record.totals, record.paid), ([(6, 1), ZERO], [(24, 7), (18, 7)]))
        self.assertTrue(accepts_steps(Claims(record.cash, record.debts), record.totals, record.steps))

    def test_unknown_names(self):
        office = an_office()
        for call in (office.bond, office.stage, office.rates, office.held):
            for name in ("z", "state", ""):
                self.assertEqual(error_of(call, name), (UnknownBond, {"name": name}))
        self.assertEqual(error_of(office.is_nominee, "z", "ann"), (UnknownBond, {"name": "z"}))
        self.assertEqual(error_of(office.is_nominee, "z", "gone"), (UnknownBond, {"name": "z"}))
        self.assertEqual(error_of(office.is_nominee, "x", "gone"), (UnknownAccount, {"name": "gone"}))
        self.assertEqual(error_of(office.is_nominee, "w", "ann"), (UnknownAccount, {"name": "ann"}))
        for call in (office.balance, office.statement):
            for name in ("bank", "gone", "x", ""):
                self.assertEqual(error_of(call, name), (UnknownAccount, {"name": name}))

    def test_what_is_returned_is_new(self):
        office = an_office()
        before = copy.deepcopy((picture(office), office.lines(), office.answers()))
        for given in (office.lines(), office.answers(), office.bonds(), office.issuers(), office.rates("x"),
                      office.held("x"), office.accounts(), office.statement("ann"), office.postings(), office.records()):
            given.append(None)
        office.postings()[0][1].append(None)
        bond = office.bond("x")
        bond.calls.append((5, (1, 1)))
        bond.face = (7, 1)
        record = office.records()[0]
        record.paid.append(None)
        record.steps[0][0].append(9)
        record.totals = []
        self.assertEqual((picture(office), office.lines(), office.answers()), before)
        self.assertEqual(office.obey("days 9"), an_office().obey("days 9"))
        self.assertFalse(same_bond(bond, office.bond("x")))


class Replays(unittest.TestCase):
    def test_a_whole_journal(self):
        office = an_office()
        again = replay(text_of(office.lines()))
        self.assertEqual((picture(again), again.lines(), again.answers()),
                         (picture(office), office.lines(), office.answers()))
        self.assertEqual(picture(replay("")), picture(Office()))

    def test_a_journal_that_was_cut_off_at_every_character(self):
        office = Office()
        lines = ["fact a count", "", "know a 1", " jump", *issue("x"), "open x ann", "move x state ann 4", "days 2", "give ann 1"]
        pictures = [picture(office)]
        answers = []
        for line in lines:
            answers.append(office.obey(line))
            pictures.append(picture(office))
        text = text_of(lines)
        for at in range(len(text) + 1):
            part = replay(text[:at])
            many = len(lines_of(text[:at]))
            self.assertEqual((part.lines(), part.answers()), (lines[:many], answers[:many]))
            self.assertEqual(picture(part), pictures[many])
            # It goes on as if nothing had happened.
            if at % 40 == 0:
                for line in lines[many:]:
                    part.obey(line)
                self.assertEqual((part.answers(), picture(part)), (answers, pictures[-1]))

    def test_wrong_lines(self):
        self.assertEqual(error_of(replay, "days 1\n\t\n"), (InvalidLine, {}))
        self.assertEqual(error_of(replay, "days 1\nday\t"), (InvalidLine, {}))
        self.assertEqual(error_of(replay, "days 1\n" + "x" * 201 + "\n"), (InvalidLine, {}))
        self.assertEqual(replay("days 1\n" + "x" * 200 + "\n").answers(), ["days 1", "refused word"])
        self.assertEqual(replay("days 1\n" + "x" * 201).answers(), ["days 1"])

    def test_the_same_calls_give_the_same_results(self):
        self.assertEqual(picture(an_office()), picture(an_office()))
        first = an_office()
        second = an_office()
        first.obey("days 1")
        self.assertNotEqual(picture(first), picture(second))
        self.assertEqual(picture(second), picture(an_office()))


class Courses(unittest.TestCase):
    """Long courses of lines, compared with an office that is told by the document's words."""

    def check_facts(self, office, before):
        """The facts of point 75, and what follows from the books and the records alone."""
        balances = {name: office.balance(name) for name in office.accounts()}
        self.assertEqual(sum((Fraction(*amount) for amount in balances.values()), 0), 0)
        self.assertTrue(all(amount[0] >= 0 for name, amount in balances.items() if name != "the world"))
        for record in office.records()[before:]:
            for debt, amount in zip(record.debts, record.paid):
                self.assertLessEqual(Fraction(*amount), Fraction(*debt[3]))
                if amount != debt[3]:
                    issuer = record.issuers[debt[0]]
                    rows = [row for row in office.statement(issuer) if row[0] == record.day]
                    self.assertEqual(rows[-1][3], ZERO)
        for name in office.bonds():
            units = [held for account, held in office.held(name) if not office.is_nominee(name, account)]
            self.assertEqual(sum(units), office.bond(name).units)

    def compare(self, office, told):
        self.assertEqual(office.current_day(), told.day)
        self.assertEqual(office.bonds(), list(told.bonds))
        self.assertEqual({name: Fraction(*office.balance(name)) for name in office.accounts()}, told.money)
        self.assertEqual([office.stage(name) for name in office.bonds()], [told.stages[name] for name in office.bonds()])
        self.assertEqual([office.rates(name) for name in office.bonds()], [told.rates[name] for name in office.bonds()])
        for name in office.bonds():
            self.assertTrue(same_bond(office.bond(name), told.bonds[name]))
            held = {account: units for account, units in office.held(name) if not office.is_nominee(name, account)}
            self.assertEqual(held, told.held[name])
        rows = {record.day: [
            (record.issuers[debt[0]], *owner, Fraction(*debt[3]), Fraction(*amount))
            for owner, debt, amount in zip(record.owners, record.debts, record.paid)
        ] for record in office.records()}
        self.assertEqual(rows, told.records)

    def test_long_courses(self):
        seen = {}
        for seed in range(60):
            chance = random.Random(seed)
            office = Office()
            told = ToldOffice()
            for line in some_lines(chance, 30):
                before = len(office.records())
                state = copy.deepcopy(picture(office)) if chance.random() < 0.05 else None
                answer = office.obey(line)
                with self.subTest(seed=seed, line=line, at=len(office.lines())):
                    if answer.startswith("refused"):
                        self.assertTrue(state is None or picture(office) == state)
                    else:
                        self.assertIn(told.obey(line), (None, answer))
                    if line.startswith("days"):
                        self.check_facts(office, before)
                        self.compare(office, told)
                for word in [line.split(" ")[0] + " " + answer.split(" ")[0], *answer.split(" ")]:
                    seen[word] = seen.get(word, 0) + 1
            self.assertEqual(faults(office.lines()), [])
            self.assertIsNone(first_difference(office.lines(), office.answers()))
        for word in ("default", "closed", "stopped", "owed", "taken", "rejected", "recall recalled", "recall refused",
                     "propose proposed", "propose refused", "vote voted", "vote refused", "move moved", "move refused"):
            self.assertGreater(seen.get(word, 0), 10, word)

    def test_days_in_one_run_and_in_parts(self):
        for seed in range(20):
            chance = random.Random(1000 + seed)
            whole = Office()
            parts = Office()
            for line in some_lines(chance, 12):
                if not line.startswith("days"):
                    self.assertEqual(whole.obey(line), parts.obey(line))
                    continue
                whole.obey(line)
                for _ in range(int(line.split(" ")[1])):
                    parts.obey("days 1")
                self.assertEqual(picture(whole), picture(parts))

    def test_a_cut_journal_of_a_long_course(self):
        chance = random.Random(75)
        lines = some_lines(chance, 25)
        text = text_of(lines)
        office = replay(text)
        for _ in range(8):
            part = text[:chance.randint(0, len(text))]
            cut = replay(part)
            many = len(cut.lines())
            self.assertEqual((cut.lines(), cut.answers()), (office.lines()[:many], office.answers()[:many]))
            self.assertEqual(text_of(cut.lines()), complete_part(part))


class Drafts(unittest.TestCase):
    def test_a_draft_goes_on_behind_a_refusal(self):
        office = office_of(*draft("x")[:3])
        self.assertEqual(office.obey("issue"), "refused text 4 1 line")
        self.assertEqual([office.obey(line) for line in draft("x")[3:] + ["issue"]], ["lines 4", "lines 5", "issued x"])


if __name__ == "__main__":
    unittest.main()
