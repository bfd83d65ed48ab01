"""Tests of the lines of an office (points 71 and 72), one class for each line of the table."""

import copy
import unittest

from consol.errors import InvalidLine
from consol.office import Office
from consol.texts import read_bond, same_bond
from helping import draft, error_of, issue, obey, office_of, picture, text_lines

LOW = "low must fact debt < 9 grace 1"


def some_office():
    """Bonds x of state and y of town; x has a nominee, and three holders with 10, 20 and 30 of 100 units."""
    return office_of(
        "fact debt count", "know debt 3",
        *issue("x", units=100, promises=[LOW], calls=["5 at 100", "6 at 100", "400 at 7"], days="2 to 500"),
        *issue("y", "town", calls=["5 at 100"]),
        "nominee x bank", "open x ann under bank", "open x bob", "open x cat",
        "move x state ann 10", "move x state bob 20", "move x state cat 30",
    )


class LineCase(unittest.TestCase):
    def refused(self, office, line, reason):
        """Checks that a line is refused, and changes nothing."""
        before = copy.deepcopy(picture(office))
        self.assertEqual(office.obey(line), f"refused {reason}", line)
        self.assertEqual(picture(office), before)
        self.assertEqual((office.lines()[-1], office.answers()[-1]), (line, f"refused {reason}"))


class Lines(LineCase):
    def test_words(self):
        office = some_office()
        for line in ("", " ", "  ", " days 1", "days 1 ", "days  1", "day 1", "Days 1", "1", "know  debt 3", "open  x",
                     "text a ", "text  a", "text ", "drop ", "refused", "~", "give state  5"):
            self.refused(office, line, "word")

    def test_counts(self):
        office = some_office()
        for line in (
            "fact", "fact a", "fact a count b", "know", "know debt", "know debt 1 2", "text", "drop x", "issue x",
            "open", "open x", "open x a b", "open x a under", "open x a under bank b", "open x a above bank",
            "nominee x", "nominee x a under", "nominee x a beneath bank", "nominee x a b c d", "move x ann bob",
            "move x ann bob 1 2", "give state", "give the world 5", "recall", "recall x y", "propose", "propose x y",
            "vote x ann", "vote x ann yes no", "decide x", "decide x 1 2", "days", "days 1 2",
            "fact a count under b", "know debt 1 under bank", "give state 5 under bank", "recall x under bank",
            "days 1 under bank", "move x ann bob 1 under bank", "issue under bank", "drop under bank",
        ):
            self.refused(office, line, "count")

    def test_words_come_before_counts(self):
        office = some_office()
        for line in ("know ", "days 1  2 3", "fact ", "jump", "drop  x"):
            self.refused(office, line, "word")

    def test_length(self):
        office = some_office()
        longest = "text " + "a" * 195
        self.assertEqual(len(longest), 200)
        self.assertEqual(office.obey(longest), "lines 1")
        before = copy.deepcopy((picture(office), office.lines(), office.answers()))
        self.assertEqual(error_of(office.obey, longest + "a"), (InvalidLine, {}))
        self.assertEqual(error_of(office.obey, " " * 201), (InvalidLine, {}))
        self.assertEqual((picture(office), office.lines(), office.answers()), before)
        self.refused(office, " " * 200, "word")

    def test_characters(self):
        office = some_office()
        before = copy.deepcopy((picture(office), office.lines(), office.answers()))
        for wrong in ("\t", "\n", "\r", "\x1f", "\x7f", "\u00e9"):
            for line in (f"days{wrong}1", f"days 1{wrong}", wrong, f"text a{wrong}b"):
                self.assertEqual(error_of(office.obey, line), (InvalidLine, {}))
        self.assertEqual((picture(office), office.lines(), office.answers()), before)

    def test_lines_and_answers_are_kept(self):
        office = Office()
        lines = ["fact debt count", "days 0", "days 2", "jump", "", "fact more count"]
        answers = [office.obey(line) for line in lines]
        self.assertEqual(answers, ["fact", "refused number", "refused fact debt", "refused word", "refused word", "fact"])
        self.assertEqual((office.lines(), office.answers()), (lines, answers))


class Facts(LineCase):
    def test_fact(self):
        office = Office()
        self.assertEqual(obey(office, "fact a money", "fact b rate", "fact c count"), ["fact"] * 3)

    def test_refused_facts(self):
        office = office_of("fact a money")
        for line, reason in (
            ("fact A count", "name"), ("fact let count", "name"), ("fact abcdefghijklm count", "name"),
            ("fact a1 count", "name"), ("fact A truth", "name"),
            ("fact a count", "taken"), ("fact a truth", "taken"),
            ("fact b truth", "kind"), ("fact b Money", "kind"), ("fact b bond", "kind"),
        ):
            self.refused(office, line, reason)
        obey(office, "know a 1", "days 1")
        for line in ("fact b count", "fact a count", "fact A truth"):
            self.refused(office, line, "late")

    def test_know(self):
        office = office_of("fact a money", "fact b rate", "fact c count")
        lines = ["know a 0", "know a 5/2", "know b -1/100", "know c -7", "know c 999999999999/5"]
        self.assertEqual(obey(office, *lines), ["known"] * 5)

    def test_refused_knowledge(self):
        office = office_of("fact a money", "fact b rate")
        for line, reason in (
            ("know c 1", "unknown"), ("know c x", "unknown"), ("know A 1", "unknown"), ("know state -1", "unknown"),
            ("know a -1", "number"), ("know a -1/2", "number"), ("know a x", "number"), ("know a 01", "number"),
            ("know b 2/4", "number"), ("know b +1", "number"), ("know b -0", "number"), ("know b 1/0", "number"),
            ("know b 3/1", "number"), ("know b 1000000000000", "number"), ("know b 1/1000000000000", "number"),
            ("know b 1.5", "number"), ("know b $1", "number"),
        ):
            self.refused(office, line, reason)
        self.assertEqual(office.obey("days 1"), "refused fact a")

    def test_facts_are_known_from_the_current_day_on(self):
        office = office_of("fact base rate", "know base 1/100", *issue("x", coupon="fact base"), "know base 1/50",
                           "days 2", "know base 1/20", "know base 1/10", "days 1", "days 1", "know base -1", "days 1")
        self.assertEqual(office.rates("x"), [(1, 50), (1, 50), (1, 10), (1, 10), (-1, 1)])


class Drafts(LineCase):
    def test_text_and_drop(self):
        office = Office()
        self.assertEqual(obey(office, "text a", "text b c", "drop", "text a", "drop", "drop"),
                         ["lines 1", "lines 2", "dropped", "lines 1", "dropped", "dropped"])

    def test_what_stands_behind_the_word(self):
        office = office_of(*issue("x", coupon="5 percent + 1/2 * rate x"))
        self.assertTrue(same_bond(office.bond("x"), read_bond("\n".join(text_lines(
            "x", coupon="5 percent + 1/2 * rate x")))))

    def test_a_full_draft(self):
        office = Office()
        answers = obey(office, *["text let"] * 60)
        self.assertEqual(answers[-1], "lines 60")
        self.refused(office, "text let", "full")
        self.assertEqual(obey(office, "drop", "text let"), ["dropped", "lines 1"])

    def test_sixty_lines_are_read(self):
        calls = [f"{day} at 1" for day in range(2, 57)]
        lines = issue("x", calls=calls)
        self.assertEqual(len(lines), 61)
        self.assertEqual(office_of(*lines).bonds(), ["x"])


class Issues(LineCase):
    def test_issue(self):
        office = office_of(*draft("x"))
        self.assertEqual(office.obey("issue"), "issued x")
        self.assertEqual((office.bonds(), office.issuers(), office.held("x")), (["x"], ["state"], [("state", 10)]))
        self.assertEqual((office.stage("x"), office.rates("x")), ("waiting", []))
        # The draft is empty again.
        self.refused(office, "issue", "text 1 1 line")

    def test_reading_the_draft(self):
        for lines, reason in (
            (["bond x by"], "text 1 10 expected"),
            (["bond x by state", "units 0 face 5"], "text 2 7 range"),
            (["bond x by state", "what"], "text 2 1 line"),
            (["bond x by state"], "text 2 1 line"),
            (["bond x ! state"], "text 1 8 character"),
            (["bond abcdefghijklm by x"], "text 1 6 word"),
            (["bond x by state", "units 01 face 5"], "text 2 7 number"),
            (text_lines("x", count="most"), "text 4 7 choice"),
            (text_lines("x", lets=["a = 1", "a = 2"]), "text 6 5 twice"),
            (text_lines("x", coupon="a"), "text 5 8 unknown"),
            (text_lines("x", coupon="(" * 21), "text 5 28 deep"),
        ):
            office = office_of(*[f"text {line}" for line in lines])
            self.refused(office, "issue", reason)
            # The draft is as it was.
            self.assertEqual(office.obey("text more"), f"lines {len(lines) + 1}")

    def test_large(self):
        office = office_of(*[f"text {'a' * 195}"] * 41)
        self.refused(office, "issue", "large")
        self.assertEqual(obey(office, "drop", *[f"text {'a' * 195}"] * 40)[-1], "lines 40")
        self.refused(office, "issue", "text 1 1 word")

    def test_taken(self):
        office = office_of(*issue("x"), *draft("x", "town", coupon="fact none"))
        self.refused(office, "issue", "taken")

    def test_eight_bonds(self):
        office = Office()
        for at, name in enumerate("abcdefgh"):
            obey(office, *issue(name, "pqrst"[at % 5]))
        obey(office, *draft("i", "p", coupon="fact none"))
        self.refused(office, "issue", "full")
        obey(office, "drop", *draft("h", "p"))
        self.refused(office, "issue", "taken")
        self.assertEqual(office.bonds(), list("abcdefgh"))

    def test_five_issuers(self):
        office = Office()
        for name in "abcde":
            obey(office, *issue(name, "p" + name))
        obey(office, *draft("f", "pf", coupon="fact none"))
        self.refused(office, "issue", "full")
        obey(office, "drop", *issue("f", "pc"))
        self.assertEqual(office.issuers(), ["pa", "pb", "pc", "pd", "pe"])

    def test_misfit(self):
        for terms in (
            {"coupon": "1"}, {"coupon": "fact none"}, {"coupon": "fact debt"}, {"lets": ["a = 1 + $1"]},
            {"promises": ["p must 1 grace 0"]}, {"promises": ["p must fact none = 1 grace 0"]},
        ):
            office = office_of("fact debt count", *draft("x", **terms))
            self.refused(office, "issue", "misfit")
        office = office_of("fact debt rate", *draft("x", coupon="fact debt"))
        self.assertEqual(office.obey("issue"), "issued x")

    def test_late(self):
        office = office_of(*draft("x"), "days 1")
        self.refused(office, "issue", "late")
        obey(office, "drop")
        self.refused(office, "issue", "late")

    def test_issued_though_the_run_stopped_on_the_first_day(self):
        office = office_of(*issue("x", coupon="rate x"))
        self.assertEqual(obey(office, "days 3", *issue("y"), "fact a count")[0], "days 0 stopped ring x")
        self.assertEqual(office.bonds(), ["x", "y"])


class Accounts(LineCase):
    def test_open_and_nominee(self):
        office = office_of(*issue("x"))
        lines = ["open x ann", "nominee x bank", "nominee x desk under bank", "open x bob under desk"]
        self.assertEqual(obey(office, *lines), ["opened"] * 4)
        self.assertEqual(office.held("x"), [("state", 10), ("ann", 0), ("bank", 0), ("desk", 0), ("bob", 0)])
        self.assertEqual([office.is_nominee("x", name) for name, _ in office.held("x")],
                         [False, False, True, True, False])
        self.assertEqual(office.accounts(), ["the world", "state", "ann", "bob"])

    def test_refused(self):
        for word in ("open", "nominee"):
            office = some_office()
            obey(office, "nominee x desk under bank", "nominee x till under desk")
            for line, reason in (
                ("z ann", "unknown"), ("z Ann under gone", "unknown"), ("bank dan", "unknown"),
                ("x Dan", "name"), ("x let", "name"), ("x Dan under gone", "name"), ("x a1", "name"),
                ("x ann", "taken"), ("x state", "taken"), ("x bank", "taken"), ("x ann under gone", "taken"),
            ):
                self.refused(office, f"{word} {line}", reason)
            # With seven accounts.
            self.refused(office, f"{word} x dan", "full")
            self.refused(office, f"{word} x dan under gone", "full")
            self.refused(office, f"{word} x ann under gone", "taken")

    def test_under_and_deep(self):
        for word in ("open", "nominee"):
            office = office_of(*issue("x"), "open x ann", "nominee x a", "nominee x b under a", "nominee x c under b",
                               "nominee x d under c")
            for line, reason in (
                ("x new under gone", "under"), ("x new under ann", "under"), ("x new under state", "under"),
                ("x new under new", "under"), ("x new under under", "under"), ("x new under d", "deep"),
            ):
                self.refused(office, f"{word} {line}", reason)
            self.assertEqual(office.obey(f"{word} x new under c"), "opened")

    def test_seven_accounts(self):
        office = office_of(*issue("x"), *[f"open x {name}" for name in "abcde"], "nominee x f", *issue("y"))
        self.assertEqual(len(office.held("x")), 7)
        self.refused(office, "open x g", "full")
        self.assertEqual(office.obey("open y g"), "opened")

    def test_money_accounts(self):
        office = office_of(*issue("x"), "nominee x bank", *issue("y", "town"))
        self.assertEqual(office.accounts(), ["the world", "state", "town"])
        obey(office, "open y bank", "open y state", "open x town", "open x ann", "open y ann")
        self.assertEqual(office.accounts(), ["the world", "state", "town", "bank", "ann"])

    def test_accounts_are_opened_in_all_stages(self):
        office = office_of(*issue("x", days="0 to 3"), "days 9", "open x ann", "move x state ann 4")
        self.assertEqual((office.stage("x"), office.held("x")), ("closed", [("state", 6), ("ann", 4)]))


class Moves(LineCase):
    def test_move(self):
        office = some_office()
        self.assertEqual(office.obey("move x ann bob 10"), "moved")
        self.assertEqual(office.held("x"),
                         [("state", 40), ("bank", 0), ("ann", 0), ("bob", 30), ("cat", 30)])

    def test_refused(self):
        office = some_office()
        for line, reason in (
            ("move z ann bob 1", "unknown"), ("move z ann bob x", "unknown"),
            ("move x ann bob 0", "number"), ("move x ann bob -1", "number"), ("move x ann bob 01", "number"),
            ("move x ann bob 1/2", "number"), ("move x ann bob x", "number"), ("move x gone gone 00", "number"),
            ("move x ann bob +1", "number"), ("move x bank bob 0", "number"),
            ("move x gone bob 1", "account"), ("move x ann gone 1", "account"), ("move x ann bank 1", "account"),
            ("move x bank ann 1", "account"), ("move x ann ann 1", "account"), ("move x ann ann 500", "account"),
            ("move y ann state 1", "account"),
            ("move x ann bob 11", "few"), ("move x state bob 41", "few"), ("move x ann bob 1000000000000000", "few"),
            ("move x ann bob " + "9" * 180, "few"),
        ):
            self.refused(office, line, reason)


class Gifts(LineCase):
    def test_give(self):
        office = some_office()
        self.assertEqual(obey(office, "give state 5", "give state 1/3", "give ann 2", "days 3", "give state 1/6"),
                         ["has 5", "has 16/3", "has 2", "days 3", "has 11/2"])
        self.assertEqual(office.statement("state"),
                         [(0, 0, (5, 1), (5, 1)), (0, 1, (1, 3), (16, 3)), (3, 3, (1, 6), (11, 2))])
        self.assertEqual(office.balance("the world"), (-15, 2))

    def test_refused(self):
        office = some_office()
        for line, reason in (
            ("give gone 5", "unknown"), ("give bank 5", "unknown"), ("give gone x", "unknown"), ("give world 5", "unknown"),
            ("give ann 0", "number"), ("give ann -1", "number"), ("give ann 05", "number"), ("give ann 2/4", "number"),
            ("give ann x", "number"), ("give ann -0", "number"), ("give ann 1/0", "number"),
        ):
            self.refused(office, line, reason)

    def test_balances_of_very_many_digits(self):
        office = some_office()
        answer = ""
        for number in range(999999999001, 999999999999, 2):
            answer = office.obey(f"give ann 1/{number}")
        self.assertGreater(len(answer), 6000)
        self.assertEqual(set(answer), set("has 0123456789/"))


class Recalls(LineCase):
    def test_recall_on_the_day_of_a_call(self):
        office = some_office()
        obey(office, "days 4")
        self.refused(office, "recall x", "call")
        obey(office, "days 1")
        self.assertEqual(office.obey("recall x"), "recalled")
        self.refused(office, "recall x", "taken")
        # 60 units are not the issuer's: each is paid 100, and 10 percent of it for 3 days.
        self.assertEqual(office.obey("days 1"), "days 1 owed 438360/73 paid 0 closed x")

    def test_unknown(self):
        self.refused(some_office(), "recall z", "unknown")

    def test_stages(self):
        office = some_office()
        self.refused(office, "recall x", "stage")
        obey(office, "days 1")
        self.refused(office, "recall x", "stage")
        obey(office, "days 4")
        self.assertEqual(office.stage("x"), "good")
        self.assertEqual(office.obey("recall x"), "recalled")
        office = some_office()
        obey(office, "days 4", "know debt 9", "days 1")
        self.assertEqual((office.current_day(), office.stage("x")), (5, "grace"))
        self.assertEqual(office.obey("recall x"), "recalled")
        office = some_office()
        obey(office, "know debt 9", "days 5")
        self.assertEqual(office.stage("x"), "default")
        self.refused(office, "recall x", "stage")

    def test_a_closed_bond(self):
        office = some_office()
        obey(office, "give state 9999", "days 5", "recall x", "days 2")
        self.assertEqual((office.current_day(), office.stage("x")), (7, "closed"))
        self.refused(office, "recall x", "stage")

    def test_the_day_behind_a_recall(self):
        # On the last day that was run, day 5, the bond was good; it is closed behind it.
        office = some_office()
        obey(office, "give state 99999", "days 5", "recall x", "days 1")
        self.assertEqual((office.current_day(), office.stage("x")), (6, "good"))
        self.assertEqual(obey(office, "recall x", "days 1"), ["recalled", "days 1"])
        self.assertEqual(office.stage("x"), "closed")

    def test_a_recall_lasts_for_its_day(self):
        office = some_office()
        obey(office, "days 5", "recall y", "days 1")
        self.assertEqual(office.stage("x"), "good")
        self.assertEqual(office.obey("recall x"), "recalled")
        self.assertIn("closed x", office.obey("days 1"))

    def test_behind_the_pay_day_of_the_last_period(self):
        # Day 118 has the weekday 6, so it is paid on day 116, a day of a call itself.
        calls = ["115 at 1", "116 at 1", "117 at 1"]
        office = office_of(*issue("x", days="0 to 118", adjust="before", calls=calls), "days 117")
        self.assertEqual((office.current_day(), office.stage("x")), (117, "good"))
        self.refused(office, "recall x", "call")


class Proposals(LineCase):
    def changed(self, **terms):
        """An office that has run a day, and the draft of another text of the bond x."""
        told = {"units": 100, "promises": [LOW], "calls": ["5 at 100", "6 at 100", "400 at 7"], "days": "2 to 500"}
        return office_of(*some_office().lines(), "days 1", *draft("x", **{**told, **terms}))

    def test_equal_texts_and_other_promises_cross_and_calls(self):
        for terms in (
            {}, {"promises": []}, {"promises": [LOW, "more must true grace 0"]}, {"cross": "5"}, {"calls": []},
            {"calls": ["5 at 101"]}, {"promises": [], "cross": "1/2", "calls": ["9 at 9"]},
        ):
            office = self.changed(**terms)
            self.assertEqual(office.obey("propose x"), "proposed")
            # The draft is empty, and the bond is as it was.
            self.refused(office, "propose x", "text 1 1 line")
            self.assertEqual(len(office.bond("x").calls), 3)

    def test_other_texts(self):
        for terms in (
            {"units": 101}, {"face": 99}, {"days": "1 to 500"}, {"days": "2 to 499"}, {"months": 11},
            {"count": "thirty"}, {"adjust": "next"}, {"record": 1}, {"rank": 1}, {"lets": ["a = 1"]},
            {"coupon": "9 percent"}, {"coupon": "1/10 * 1"},
        ):
            self.refused(self.changed(**terms), "propose x", "other")
        office = self.changed()
        self.refused(office, "propose y", "other")
        obey(office, "drop", *draft("x", "town", units=100, days="2 to 500"))
        self.refused(office, "propose x", "other")
        obey(office, "drop", *draft("w", units=100, days="2 to 500"))
        self.refused(office, "propose x", "other")

    def test_what_is_equal_by_its_numbers(self):
        self.assertEqual(self.changed(coupon="20/2 percent").obey("propose x"), "proposed")

    def test_refused(self):
        office = self.changed(promises=["p must fact none < 1 grace 0"])
        self.refused(office, "propose z", "unknown")
        self.refused(office, "propose x", "misfit")
        office = self.changed(promises=["p must 1 grace 0"], units=3)
        self.refused(office, "propose x", "other")
        office = self.changed(promises=["p must grace 0"])
        self.refused(office, "propose x", "text 6 16 expected")
        office = self.changed()
        obey(office, "drop", *[f"text {'a' * 195}"] * 41)
        self.refused(office, "propose x", "large")
        self.refused(office, "propose z", "unknown")

    def test_taken_and_early(self):
        terms = {"units": 100, "calls": ["5 at 100"], "days": "2 to 500"}
        office = office_of(*some_office().lines(), *draft("x", **terms))
        self.refused(office, "propose x", "early")
        obey(office, "days 1", "propose x", *draft("x", **terms))
        self.refused(office, "propose x", "taken")
        obey(office, "drop", *draft("x", **terms, promises=["p must fact none < 1 grace 0"]))
        self.refused(office, "propose x", "misfit")
        obey(office, "drop", *draft("y", "town"), "propose y")

    def test_misfit_comes_before_early(self):
        office = office_of(*some_office().lines(), *draft(
            "x", units=100, days="2 to 500", promises=["p must fact none < 1 grace 0"]))
        self.refused(office, "propose x", "misfit")


class Votes(LineCase):
    def proposing(self, *more):
        return office_of(*some_office().lines(), "days 1", *draft("x", units=100, days="2 to 500"), "propose x", *more)

    def test_vote(self):
        office = self.proposing()
        self.assertEqual(obey(office, "vote x ann yes", "vote x bob no", "decide x 1/2"),
                         ["voted", "voted", "rejected 10 20 30"])

    def test_refused(self):
        office = self.proposing("vote x ann yes")
        for line, reason in (
            ("vote z ann yes", "unknown"), ("vote z ann maybe", "unknown"),
            ("vote y state yes", "none"), ("vote y gone maybe", "none"),
            ("vote x bob Yes", "word"), ("vote x gone maybe", "word"), ("vote x ann true", "word"),
            ("vote x gone yes", "account"), ("vote x bank yes", "account"), ("vote x town no", "account"),
            ("vote x state yes", "twice"), ("vote x ann yes", "twice"), ("vote x ann no", "twice"),
        ):
            self.refused(office, line, reason)
        self.assertEqual(office.obey("decide x 1/6"), "taken 10 0 50")

    def test_an_account_that_was_opened_later(self):
        office = self.proposing("open x dan", "move x ann dan 10", "vote x dan yes", "vote x bob yes")
        self.assertEqual(office.obey("decide x 1/3"), "taken 20 0 40")
        office = self.proposing("open x dan", "move x ann dan 10", "vote x dan yes", "days 1")
        self.assertEqual(office.obey("decide x 1"), "rejected 10 0 50")

    def test_no_proposal_is_left_behind_a_decision(self):
        for share in ("1/6", "1"):
            office = self.proposing("vote x ann yes", f"decide x {share}")
            self.refused(office, "vote x bob yes", "none")
            self.refused(office, "decide x 1/6", "none")
            # The votes are gone, too.
            obey(office, *draft("x", units=100, days="2 to 500"), "propose x", "vote x ann no")
            self.assertEqual(office.obey("decide x 1/6"), "rejected 0 10 50")


class Decisions(LineCase):
    def proposing(self, *more, **terms):
        return office_of(*some_office().lines(), "days 1", *draft("x", units=100, days="2 to 500", **terms),
                         "propose x", *more)

    def test_refused(self):
        office = self.proposing("vote x ann yes")
        for line, reason in (
            ("decide z 1/2", "unknown"), ("decide z x", "unknown"), ("decide y 1/2", "none"), ("decide y x", "none"),
            ("decide x 0", "number"), ("decide x -1/2", "number"), ("decide x 2", "number"), ("decide x 3/2", "number"),
            ("decide x 2/4", "number"), ("decide x x", "number"), ("decide x 1/1", "number"),
        ):
            self.refused(office, line, reason)

    def test_shares_that_just_do_and_just_do_not_suffice(self):
        for share, answer in (("1/2", "taken 30 10 20"), ("499/1000", "taken 30 10 20"), ("501/1000", "rejected 30 10 20"),
                              ("1", "rejected 30 10 20")):
            office = self.proposing("vote x cat yes", "vote x ann no", promises=["p must false grace 400"])
            self.assertEqual(office.obey(f"decide x {share}"), answer)
            self.assertEqual([promise[0] for promise in office.bond("x").promises],
                             ["p"] if answer.startswith("taken") else ["low"])
        office = self.proposing("vote x cat yes", "vote x ann yes", "vote x bob yes")
        self.assertEqual(office.obey("decide x 1"), "taken 60 0 0")

    def test_without_a_yes(self):
        office = self.proposing("vote x ann no")
        self.assertEqual(office.obey("decide x 1/1000"), "rejected 0 10 50")
        self.assertEqual(self.proposing().obey("decide x 1/1000"), "rejected 0 0 60")

    def test_the_text_is_the_new_one(self):
        terms = {"promises": ["p must true grace 3"], "cross": "7", "calls": ["9 at 8"]}
        office = self.proposing("vote x cat yes", "decide x 1/2", **terms)
        told = read_bond("\n".join(text_lines("x", units=100, days="2 to 500", **terms)))
        self.assertTrue(same_bond(office.bond("x"), told))

    def test_holders_of_the_last_day_that_was_run(self):
        office = self.proposing("vote x ann yes", "move x cat ann 30", "move x state ann 40")
        self.assertEqual(office.obey("decide x 1"), "rejected 10 0 50")
        office = self.proposing("vote x ann yes", "move x cat ann 30", "move x state ann 40", "move x bob ann 20",
                                "days 1")
        self.assertEqual(office.obey("decide x 1"), "taken 100 0 0")
        self.assertEqual(office.held("x")[0], ("state", 0))

    def test_decisions_in_all_stages(self):
        office = self.proposing("know debt 9", "days 5", "vote x cat yes")
        self.assertEqual((office.stage("x"), office.obey("decide x 1/2"), office.stage("x")),
                         ("default", "taken 30 0 30", "default"))


class Days(LineCase):
    def test_numbers(self):
        office = some_office()
        for number in ("0", "401", "01", "-1", "1/2", "x", "4000000000000000000", "+1", "1.0"):
            self.refused(office, f"days {number}", "number")
        self.assertEqual(obey(office, "days 1", "days 2"), ["days 1", "days 2"])
        self.assertEqual(office_of().obey("days 400"), "days 400")

    def test_facts_that_are_not_known_yet(self):
        office = office_of("fact b count", "fact a count", "fact c count", *issue("x", coupon="rate z"))
        self.refused(office, "days 1", "fact b")
        self.refused(office, "days 0", "number")
        obey(office, "know b 1", "know c 1")
        self.refused(office, "days 1", "fact a")
        obey(office, "know a 1")
        self.refused(office, "days 1", "bond z")

    def test_bonds_that_are_not_there(self):
        office = office_of(*issue("x", coupon="rate q + rate x"), *issue("y", lets=["a = rate z"], coupon="a + rate p"))
        self.refused(office, "days 1", "bond q")
        obey(office, *issue("q"))
        self.refused(office, "days 1", "bond p")
        obey(office, *issue("p"))
        self.refused(office, "days 1", "bond z")
        obey(office, *issue("z", "town"))
        self.assertEqual(office.obey("days 1"), "days 0 stopped ring x")

    def test_a_let_that_the_coupon_does_not_use(self):
        office = office_of(*issue("x", lets=["a = rate z"]))
        self.assertEqual(office.obey("days 1"), "days 1")


if __name__ == "__main__":
    unittest.main()
