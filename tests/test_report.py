"""Tests of consol.report (points 76 to 78)."""

import copy
import random
import unittest
import unittest.mock

from consol.errors import InvalidLine, UnknownAccount
from consol.office import Office
from consol.report import day_report, faults, first_difference, holder_report, issuer_report
from helping import error_of, issue, office_of, picture
from told_office import some_lines


def first_office():
    """The office of the example of consol/office.py."""
    lines = ["bond x by state", "units 10 face 100", "from 0 to 59 every 1 months"]
    lines = lines + ["count thirty adjust none record 0 rank 0", "coupon 12 percent"]
    office = Office()
    for line in ["text " + line for line in lines] + [
        "issue", "open x ann", "move x state ann 4", "give state 6", "days 31", "days 1", "days 40",
        "move x state ann 0", "issue",
    ]:
        office.obey(line)
    return office


def chain():
    """On day 9 a owes b, b owes c and c owes zed 1000 each; a has 100, and b and c have nothing."""
    terms = {"days": "0 to 9", "coupon": "0 percent"}
    return office_of(
        *issue("x", "a", **terms), *issue("y", "b", **terms), *issue("z", "c", **terms), *issue("w", "a", days="5 to 90"),
        "nominee x bank", "open x b under bank", "move x a b 10", "open y c", "move y b c 10",
        "open z zed", "open w zed", "open w b", "move z c zed 10", "move w a zed 3", "give a 100", "give zed 1/3",
        "days 10",
    )


class Examples(unittest.TestCase):
    def test_examples(self):
        office = first_office()
        self.assertEqual(issuer_report(office, "state"),
                         ["issuer state has 0", "bond x closed out 4", "day 59 paid 2 of 404 because state"])
        self.assertEqual(holder_report(office, "ann"), [
            "holder ann has 6", "bond x units 4", "day 31 x owed 4 paid 4", "day 59 x owed 404 paid 2"])
        self.assertEqual((day_report(office, 59), faults(office.lines())), (["state x ann owed 404 paid 2"], []))
        self.assertIs(first_difference(office.lines(), office.answers()) is None, True)


class Issuers(unittest.TestCase):
    def test_stages_and_units(self):
        office = office_of("fact debt count", "know debt 9", *issue("x", days="5 to 90"), *issue(
            "y", promises=["p must fact debt < 9 grace 400"]), *issue("t", "town"), *issue(
            "z", promises=["p must fact debt < 9 grace 1"]), *issue("v", days="0 to 2"), "open y ann",
            "move y state ann 3", "open y town", "move y ann town 1", "give state 7/2")
        self.assertEqual(issuer_report(office, "state"), [
            "issuer state has 7/2", "bond x waiting out 0", "bond y waiting out 3", "bond z waiting out 0",
            "bond v waiting out 0",
        ])
        office.obey("days 5")
        self.assertEqual(issuer_report(office, "state"), [
            "issuer state has 7/2", "bond x waiting out 0", "bond y grace out 3", "bond z default out 0",
            "bond v closed out 0",
        ])
        office.obey("days 1")
        self.assertEqual(issuer_report(office, "state")[1], "bond x good out 0")
        self.assertEqual(issuer_report(office, "town"), ["issuer town has 0", "bond t good out 0"])

    def test_rows_of_causes(self):
        office = chain()
        self.assertEqual(issuer_report(office, "a"), [
            "issuer a has 0", "bond x good out 10", "bond w good out 3", "day 9 paid 100 of 1000 because a"])
        self.assertEqual(issuer_report(office, "b"), [
            "issuer b has 0", "bond y good out 10", "day 9 paid 100 of 1000 because a b"])
        self.assertEqual(issuer_report(office, "c"), [
            "issuer c has 0", "bond z good out 10", "day 9 paid 100 of 1000 because a b c"])

    def test_several_records(self):
        office = office_of(*issue("x", days="0 to 90", months=1, count="thirty", coupon="12 percent"), "open x ann",
                           "move x state ann 10", "give state 13", "days 60", "give state 50", "days 1")
        self.assertEqual(issuer_report(office, "state"), [
            "issuer state has 0", "bond x default out 10", "day 59 paid 3 of 10 because state",
            "day 60 paid 50 of 3001/3 because state",
        ])

    def test_names_that_are_none(self):
        office = chain()
        for name in ("zed", "x", "the world", "", "gone", "bank"):
            self.assertEqual(error_of(issuer_report, office, name), (UnknownAccount, {"name": name}))


class Holders(unittest.TestCase):
    def test_holders(self):
        office = chain()
        self.assertEqual(holder_report(office, "zed"), [
            "holder zed has 301/3", "bond z units 10", "bond w units 3", "day 9 z owed 1000 paid 100"])
        # b is a holder of x and w and the issuer of y; it has no units of y and w.
        self.assertEqual(holder_report(office, "b"), ["holder b has 0", "bond x units 10", "day 9 x owed 1000 paid 100"])
        self.assertEqual(holder_report(office, "a"), ["holder a has 0", "bond w units 7"])

    def test_units_as_they_are_now(self):
        office = first_office()
        office.obey("move x ann state 4")
        self.assertEqual(holder_report(office, "ann"),
                         ["holder ann has 6", "day 31 x owed 4 paid 4", "day 59 x owed 404 paid 2"])
        self.assertEqual(holder_report(office, "state"), ["holder state has 0", "bond x units 10"])

    def test_a_name_that_is_a_nominee_elsewhere(self):
        office = office_of(*issue("x"), *issue("y"), "nominee x bank", "open x ann under bank", "move x state ann 4")
        self.assertEqual(error_of(holder_report, office, "bank"), (UnknownAccount, {"name": "bank"}))
        for line in ("open y bank", "move y state bank 2"):
            office.obey(line)
        self.assertEqual(holder_report(office, "bank"), ["holder bank has 0", "bond y units 2"])
        office.obey("move y bank state 1")
        self.assertEqual(holder_report(office, "bank"), ["holder bank has 0", "bond y units 1"])

    def test_names_that_are_none(self):
        office = chain()
        for name in ("bank", "the world", "x", "", "gone"):
            self.assertEqual(error_of(holder_report, office, name), (UnknownAccount, {"name": name}))


class Days(unittest.TestCase):
    def test_days(self):
        office = chain()
        self.assertEqual(day_report(office, 9), [
            "a x b owed 1000 paid 100", "b y c owed 1000 paid 100", "c z zed owed 1000 paid 100"])
        for day in (-1, 0, 8, 10, 500):
            self.assertEqual(day_report(office, day), [])
        self.assertEqual(day_report(Office(), 0), [])

    def test_fractions(self):
        office = office_of(*issue("x", days="0 to 31", count="fixed", coupon="5 percent"), "open x ann", "open x bob",
                           "move x state ann 1", "move x state bob 2", "give state 100", "days 32")
        self.assertEqual(day_report(office, 31), ["state x ann owed 7331/73 paid 100/3", "state x bob owed 14662/73 paid 200/3"])


class Auditing(unittest.TestCase):
    def test_confirmed_answers(self):
        office = first_office()
        self.assertIsNone(first_difference(office.lines(), office.answers()))
        self.assertIsNone(first_difference([], []))

    def test_changed_left_out_and_added_answers(self):
        office = first_office()
        lines = office.lines()
        answers = office.answers()
        for at in range(len(answers)):
            changed = answers[:at] + [answers[at] + "x"] + answers[at + 1:]
            self.assertEqual(first_difference(lines, changed), at)
            self.assertEqual(first_difference(lines, answers[:at]), at)
            left_out = answers[:at] + answers[at + 1:]
            self.assertEqual(first_difference(lines, left_out), at)
        self.assertEqual(first_difference(lines, answers + ["more"]), len(answers))
        self.assertEqual(first_difference(lines, []), 0)
        self.assertEqual(first_difference([], ["more"]), 0)
        self.assertEqual(first_difference(lines[:-1], answers), len(answers) - 1)
        self.assertEqual(first_difference(lines, answers[:3] + ["x"]), 3)

    def test_wrong_lines(self):
        for lines in (["days 1", "\t"], ["x" * 201], ["days 1\n"]):
            self.assertEqual(error_of(faults, lines), (InvalidLine, {}))
            self.assertEqual(error_of(first_difference, lines, []), (InvalidLine, {}))

    def test_there_are_no_faults(self):
        self.assertEqual(faults([]), [])
        self.assertEqual(faults(chain().lines()), [])
        for seed in range(8):
            self.assertEqual(faults(some_lines(random.Random(300 + seed), 20)), [])

    def test_faults_of_an_office_that_is_wrong(self):
        lines = first_office().lines()

        class Wrong(Office):
            def records(self):
                found = Office.records(self)
                found[1].paid = [(1, 1)]
                return found

        class Poor(Office):
            def postings(self):
                found = Office.postings(self)
                return [found[0], *found[2:], (70, [("ann", (-7, 1)), ("state", (7, 1))]), (80, []),
                        (90, [("ann", (7, 1)), ("state", (-7, 1))])]

        class Lossy(Office):
            def postings(self):
                return [*Office.postings(self), (90, [("ann", (7, 1))])]

        class Debtor(Office):
            def postings(self):
                return [(0, [("the world", (-7, 1)), ("ann", (7, 1))]), (3, [("ann", (-8, 1)), ("the world", (8, 1))])]

        for kind, found in ((Wrong, ["steps 59"]), (Poor, ["money 70", "money 80"]), (Lossy, ["money 90"]),
                            (Debtor, ["money 3"]), (Office, [])):
            with unittest.mock.patch("consol.report.Office", kind):
                self.assertEqual(faults(lines), found)

    def test_nothing_changes(self):
        office = chain()
        before = copy.deepcopy((picture(office), office.lines(), office.answers()))
        lines = office.lines()
        answers = office.answers()
        for given in (issuer_report(office, "a"), holder_report(office, "b"), day_report(office, 9), faults(lines)):
            given.append("more")
        first_difference(lines, answers)
        self.assertEqual((picture(office), office.lines(), office.answers()), before)
        self.assertEqual((lines, answers), before[1:])
        self.assertEqual(faults(lines), [])


if __name__ == "__main__":
    unittest.main()
