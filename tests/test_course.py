"""Tests of running days (points 73 to 75)."""

import unittest

from consol.office import Office
from helping import draft, issue, obey, office_of, picture


def paid_on(office):
    """The days on which something was owed, with what was owed to whom and paid."""
    return {
        record.day: [(*owner, debt[3], amount) for owner, debt, amount in zip(record.owners, record.debts, record.paid)]
        for record in office.records()
    }


def holding(name="x", holder="ann", units=10, issuer="state"):
    """The lines that move units from the issuer to a holder."""
    return [f"open {name} {holder}", f"move {name} {issuer} {holder} {units}"]


class Stages(unittest.TestCase):
    def test_from_waiting_to_closed(self):
        office = office_of("fact debt count", "know debt 1", *issue(
            "x", days="2 to 5", promises=["p must fact debt < 9 grace 2"]))
        stages = [office.stage("x")]
        for debt in (1, 1, 1, 9, 9, 1, 1, 1):
            obey(office, f"know debt {debt}", "days 1")
            stages.append(office.stage("x"))
        self.assertEqual(stages, ["waiting"] * 3 + ["good", "grace", "grace", "good", "closed", "closed"])

    def test_closed_behind_the_pay_day_not_the_last_day(self):
        # Day 118 has the weekday 6: it is paid on day 119, or on day 116.
        for word, last in (("next", 119), ("before", 116)):
            office = office_of(*issue("x", days="0 to 118", adjust=word), "give state 5000", f"days {last}")
            self.assertEqual(office.obey("days 1"), "days 1 closed x")
            self.assertEqual(office.stage("x"), "good")
            obey(office, "days 1")
            self.assertEqual(office.stage("x"), "closed")

    def test_the_breach_of_a_promise_before_the_first_day(self):
        office = office_of("fact debt count", "know debt 9", *issue(
            "x", days="3 to 9", promises=["p must fact debt < 9 grace 1"]))
        stages = []
        for _ in range(6):
            obey(office, "days 1")
            stages.append(office.stage("x"))
        self.assertEqual(stages, ["waiting"] * 3 + ["grace", "default", "default"])

    def test_a_default_stays(self):
        office = office_of("fact debt count", "know debt 9", *issue(
            "x", days="0 to 9", promises=["p must fact debt < 9 grace 1"]))
        self.assertEqual(obey(office, "days 3", "know debt 1", "days 40"), ["days 3 default x", "known", "days 40"])
        self.assertEqual(office.stage("x"), "default")

    def test_an_unpaid_principal_is_no_default(self):
        office = office_of(*issue("x", days="0 to 9", coupon="0 percent"), *holding())
        self.assertEqual(obey(office, "days 10", "days 20"), ["days 10 owed 1000 paid 0 closed x", "days 20"])
        self.assertEqual(office.stage("x"), "closed")

    def test_closed_bonds_break_no_promises(self):
        office = office_of("fact debt count", "know debt 1", *issue(
            "x", days="0 to 9", promises=["p must fact debt < 9 grace 0"]), "days 11", "know debt 9")
        self.assertEqual((office.obey("days 5"), office.stage("x")), ("days 5", "closed"))

    def test_promises_that_quote_rates_and_look_back(self):
        office = office_of(
            "fact base rate", "know base 1/100", *issue("x", coupon="fact base", promises=[
                "p must not before 2 (rate y > 5 percent) grace 0"]), *issue("y", coupon="2 * rate x"))
        obey(office, "days 1", "know base 3/100", "days 1", "know base 1/100")
        self.assertEqual([obey(office, "days 1") for _ in range(3)], [["days 1"], ["days 1 default x"], ["days 1"]])


class Rates(unittest.TestCase):
    def test_rates_from_day_to_day(self):
        office = office_of("fact base rate", "know base 1/100", *issue("x", coupon="rate y + fact base"),
                           *issue("y", coupon="1/2 * rate x"), "days 2", "know base 1/50", "days 1")
        self.assertEqual((office.rates("x"), office.rates("y")),
                         ([(1, 50), (1, 50), (1, 25)], [(1, 100), (1, 100), (1, 50)]))

    def test_the_rate_of_the_first_day_of_a_period_counts(self):
        office = office_of("fact base rate", "know base 1/10", *issue("x", days="0 to 59", months=1, coupon="fact base"),
                           *holding(), "give state 5000", "days 1", "know base 1/2", "days 30", "know base 1/5", "days 1",
                           "know base 9", "days 40")
        self.assertEqual(paid_on(office), {
            31: [("x", "ann", (620, 73), (620, 73))],
            59: [("x", "ann", (74120, 73), (74120, 73))],
        })

    def test_the_rate_of_the_day_itself(self):
        # A period that is paid on its first day has the rate of that day.
        office = office_of("fact base rate", "know base 1/10", *issue(
            "x", days="5 to 6", adjust="before", coupon="fact base", face=365), *holding(), "give state 5000", "days 5",
            "know base 1/2", "days 1")
        self.assertEqual(paid_on(office), {5: [("x", "ann", (3655, 1), (3655, 1))]})


class Stops(unittest.TestCase):
    def ring(self):
        """A ring that has no single rate while the fact is 1, and is not straight while it is 2."""
        coupon = "if fact on = 1 then rate a else if fact on = 2 then max(rate a, 1 percent) else 1 percent"
        return ["fact on count", "know on 0", *issue("x", days="0 to 3", units=10), *issue("b", coupon=coupon),
                *issue("a", coupon="rate b")]

    def test_in_the_midst_of_a_run(self):
        office = office_of(*self.ring(), "days 2", "know on 1")
        before = picture(office)
        self.assertEqual(office.obey("days 5"), "days 0 stopped ring a")
        self.assertEqual(picture(office), before)
        self.assertEqual(obey(office, "know on 2", "days 5"), ["known", "days 0 stopped ring a"])
        self.assertEqual(picture(office), before)
        self.assertEqual(obey(office, "know on 0", "days 5", "know on 2", "days 1"),
                         ["known", "days 5 closed x", "known", "days 0 stopped ring a"])
        self.assertEqual((office.current_day(), len(office.rates("a"))), (7, 7))

    def test_after_some_days_of_one_run(self):
        # From day 4 on the coupon looks at a day on which the fact was 1.
        coupon = "if before 4 (fact on = 1) then rate b else 1 percent"
        office = office_of("fact on count", "know on 1", *issue("x", days="0 to 3"), *issue("b", coupon=coupon),
                           *holding("x"), "give state 9")
        self.assertEqual(office.obey("days 9"), "days 4 owed 73060/73 paid 9 closed x stopped ring b")
        self.assertEqual((office.current_day(), office.stage("x")), (4, "good"))
        self.assertEqual(office.obey("days 9"), "days 0 stopped ring b")

    def test_what_was_found_of_a_day_that_was_not_run_is_forgotten(self):
        coupon = "if ever 3 (fact on = 1) then rate b else 1 percent"
        office = office_of("fact on count", "know on 0", *issue("b", coupon=coupon))
        lines = ["days 2", "know on 1", "days 4", "know on 0", "days 4", "know on 1", "days 1", "know on 2", "days 9"]
        self.assertEqual([office.obey(line) for line in lines], [
            "days 2", "known", "days 0 stopped ring b", "known", "days 4", "known", "days 0 stopped ring b", "known",
            "days 9",
        ])
        # On the first day, other bonds may come to be there.
        office = office_of("fact on count", "know on 1", *issue("b", coupon=coupon), "days 1", *issue("c"), "know on 0",
                           "days 2")
        self.assertEqual((office.rates("b"), office.rates("c")), ([(1, 100)] * 2, [(1, 10)] * 2))

    def test_on_the_first_day(self):
        office = office_of(*self.ring(), "know on 1")
        before = picture(office)
        self.assertEqual(office.obey("days 1"), "days 0 stopped ring a")
        self.assertEqual(picture(office), before)
        self.assertEqual(obey(office, "know on 0", "days 1"), ["known", "days 1"])

    def test_the_first_group_for_which_it_is_raised(self):
        office = office_of(*issue("a", coupon="rate z"), *issue("z", coupon="rate z"), *issue("b", coupon="rate b"))
        self.assertEqual(office.obey("days 1"), "days 0 stopped ring b")
        office = office_of(*issue("a", coupon="rate z"), *issue("z", coupon="rate z"))
        self.assertEqual(office.obey("days 1"), "days 0 stopped ring z")

    def test_the_first_bond_of_the_group_where_a_later_one_is_not_straight(self):
        office = office_of(*issue("b", coupon="min(rate a, 1 percent)"), *issue("a", coupon="rate b"))
        self.assertEqual(office.obey("days 1"), "days 0 stopped ring a")

    def test_facts_and_recalls_wait_for_the_day(self):
        office = office_of(*self.ring(), *issue("y", calls=["2 at 50"], days="0 to 9"), *holding("y"), "give state 90",
                           "days 2", "know on 1", "recall y", "days 1")
        self.assertEqual(office.obey("recall y"), "refused taken")
        self.assertEqual(obey(office, "know on 0", "days 1")[1], "days 1 owed 36540/73 paid 90 closed y")

    def test_promises_that_quote_what_is_no_bond(self):
        office = office_of(*issue("x", promises=["p must rate z < 1 percent grace 0"]))
        before = picture(office)
        self.assertEqual(office.obey("days 3"), "refused bond z")
        self.assertEqual(picture(office), before)
        self.assertEqual(obey(office, *issue("z", coupon="0 percent"), "days 3")[-1], "days 3")
        # Where the rate is not needed, the day can be run.
        office = office_of("fact on count", "know on 0", *issue(
            "x", promises=["p must fact on = 0 or rate z < 1 percent grace 0"]))
        self.assertEqual([office.obey(line) for line in ("days 3", "know on 1", "days 1")],
                         ["days 3", "known", "refused bond z"])
        self.assertEqual(obey(office, "know on 0", "days 2"), ["known", "days 2"])
        self.assertEqual(office.current_day(), 5)

    def test_promises_that_come_to_need_what_is_no_bond(self):
        office = office_of("fact on count", "know on 1", *issue(
            "x", promises=["p must not before 3 (fact on = 1) or rate z < 1 percent grace 0"]))
        self.assertEqual([office.obey("days 9") for _ in range(2)], ["days 3", "refused bond z"])
        self.assertEqual((office.current_day(), office.rates("x"), office.stage("x")), (3, [(1, 10)] * 3, "good"))


class Payments(unittest.TestCase):
    def test_coupons_and_principal(self):
        office = office_of(*issue("x", days="0 to 59", months=1, count="thirty", coupon="12 percent"), *holding(units=4),
                           "give state 1000")
        self.assertEqual(obey(office, "days 31", "days 1", "days 27", "days 1", "days 1"),
                         ["days 31", "days 1 owed 4 paid 4", "days 27", "days 1 owed 404 paid 404 closed x", "days 1"])
        self.assertEqual((office.balance("state"), office.balance("ann")), ((592, 1), (408, 1)))

    def test_sums_of_several_days(self):
        office = office_of(*issue("x", days="0 to 59", months=1, count="thirty", coupon="12 percent"), *holding(units=4),
                           "give state 100")
        self.assertEqual(office.obey("days 400"), "days 400 owed 408 paid 100 closed x")

    def test_the_issuers_own_units_are_owed_nothing(self):
        office = office_of(*issue("x", days="0 to 3"), "days 9")
        self.assertEqual((office.records(), office.postings()), ([], []))
        self.assertEqual(office.answers()[-1], "days 9 closed x")

    def test_a_rate_of_zero_and_rates_below(self):
        office = office_of("fact base rate", "know base 0", *issue(
            "x", days="0 to 90", months=1, coupon="fact base"), *holding(), "give state 5000", "days 32",
            "know base -1/10", "days 100")
        # Nothing is owed for the coupon of 0, and what is below 0 does not lessen the principal.
        self.assertEqual(paid_on(office), {90: [("x", "ann", (1000, 1), (1000, 1))]})

    def test_what_is_below_zero_is_not_owed(self):
        office = office_of("fact base rate", "know base -1/10", *issue(
            "x", days="0 to 90", months=1, coupon="fact base", calls=["40 at 5"]), *holding(), "give state 5000",
            "days 40", "recall x", "days 1")
        self.assertEqual(paid_on(office), {40: [("x", "ann", (50, 1), (50, 1))]})

    def test_holders_under_nominees(self):
        office = office_of(*issue("x", days="0 to 9", coupon="0 percent"), "nominee x bank", "nominee x desk under bank",
                           "open x ann under desk", "open x bob under bank", "open x cat", "move x state cat 1",
                           "move x state bob 2", "move x state ann 3", "give state 300", "days 10")
        self.assertEqual(paid_on(office), {9: [
            ("x", "ann", (300, 1), (150, 1)), ("x", "bob", (200, 1), (100, 1)), ("x", "cat", (100, 1), (50, 1)),
        ]})
        self.assertNotIn("bank", office.accounts())

    def test_ranks_and_the_order_of_debts(self):
        office = office_of(
            *issue("x", days="0 to 9", rank=1, coupon="0 percent"), *issue("y", "town", days="0 to 9", coupon="0 percent"),
            *issue("z", days="0 to 9", coupon="0 percent"), *holding("z", "bob", 3), *holding("x", "ann", 10),
            *holding("y", "bob", 1, "town"), "open x bob", "move x ann bob 5", "give state 400", "days 10")
        record = office.records()[0]
        self.assertEqual((record.issuers, record.cash), (["state", "town"], [(400, 1), (0, 1)]))
        self.assertEqual(record.owners, [("x", "ann"), ("x", "bob"), ("y", "bob"), ("z", "bob")])
        self.assertEqual(record.debts, [(0, 1, None, (500, 1)), (0, 1, None, (500, 1)), (1, 0, None, (100, 1)),
                                        (0, 0, None, (300, 1))])
        self.assertEqual(record.paid, [(50, 1), (50, 1), (0, 1), (300, 1)])
        self.assertEqual((office.balance("ann"), office.balance("bob")), ((50, 1), (350, 1)))

    def test_bonds_that_pay_each_others_issuers_in_a_ring(self):
        terms = {"days": "0 to 9", "coupon": "0 percent"}
        lines = [*issue("x", "a", **terms), *issue("y", "b", **terms), *issue("z", "c", **terms),
                 *holding("x", "b", 10, "a"), *holding("y", "c", 10, "b"), *holding("z", "a", 10, "c")]
        office = office_of(*lines, "days 10")
        # Everybody owes 1000 and has nothing, but is paid 1000.
        self.assertEqual(office.answers()[-1], "days 10 owed 3000 paid 3000 closed x y z")
        self.assertEqual([office.balance(name) for name in "abc"], [(0, 1)] * 3)
        office = office_of(*lines, "open x dan", "move x b dan 5", "give c 7", "days 10")
        self.assertEqual(office.records()[0].paid, [(7, 1), (7, 1), (7, 1), (14, 1)])
        self.assertEqual([office.balance(name) for name in ("a", "b", "c", "dan")], [(0, 1), (0, 1), (0, 1), (7, 1)])

    def test_an_issuer_that_holds_other_issuers_bonds(self):
        terms = {"days": "0 to 9", "coupon": "0 percent"}
        office = office_of(*issue("x", "a", **terms), *issue("y", "b", **terms), *holding("x", "b", 4, "a"),
                           *holding("y", "ann", 5, "b"), "give a 400", "days 10")
        self.assertEqual(office.records()[0].debts, [(0, 0, 1, (400, 1)), (1, 0, None, (500, 1))])
        self.assertEqual((office.balance("a"), office.balance("b"), office.balance("ann")), ((0, 1), (0, 1), (400, 1)))

    def test_postings(self):
        office = office_of(*issue("x", days="0 to 9", coupon="0 percent"), *holding(units=1), "open x bob",
                           "move x state bob 3", "give state 100", "days 10")
        self.assertEqual(office.postings()[0], (0, [("the world", (-100, 1)), ("state", (100, 1))]))
        self.assertEqual(office.postings()[1], (9, [("state", (-25, 1)), ("ann", (25, 1)), ("state", (-75, 1)),
                                                    ("bob", (75, 1))]))
        self.assertEqual(office.statement("state"), [(0, 0, (100, 1), (100, 1)), (9, 1, (-100, 1), (0, 1))])

    def test_what_is_not_paid_is_not_owed_later(self):
        office = office_of(*issue("x", days="0 to 59", months=1, count="thirty", coupon="12 percent"), *holding(units=4),
                           "days 32", "give state 5000")
        self.assertEqual(obey(office, "days 1", "days 100"), ["days 1 owed 6002/15 paid 6002/15 default x", "days 100"])


class RecordDays(unittest.TestCase):
    def test_holders_change_between_the_record_day_and_the_payment(self):
        office = office_of(*issue("x", days="0 to 20", record=5, coupon="0 percent"), *holding(), "open x bob",
                           "give state 5000", "days 15", "move x ann bob 3", "days 1", "move x ann bob 4", "days 9")
        # Moves ahead of day 15 count, as they are made before it ends.
        self.assertEqual(paid_on(office), {20: [("x", "ann", (700, 1), (700, 1)), ("x", "bob", (300, 1), (300, 1))]})
        self.assertEqual(office.held("x"), [("state", 0), ("ann", 3), ("bob", 7)])

    def test_a_record_day_ahead_of_the_first_day(self):
        office = office_of(*issue("x", days="3 to 6", record=60, coupon="0 percent"), *holding(), "open x bob",
                           "give state 5000", "days 3", "move x ann bob 3", "days 1", "move x ann bob 4", "days 9")
        self.assertEqual(paid_on(office), {6: [("x", "ann", (700, 1), (700, 1)), ("x", "bob", (300, 1), (300, 1))]})

    def test_an_account_that_was_opened_behind_the_record_day(self):
        office = office_of(*issue("x", days="0 to 20", record=5, coupon="0 percent"), *holding(), "give state 5000",
                           "days 16", "open x bob", "move x ann bob 10", "days 9")
        self.assertEqual(paid_on(office), {20: [("x", "ann", (1000, 1), (1000, 1))]})

    def test_a_call_pays_the_holders_of_the_day_and_its_coupon_those_of_the_record_day(self):
        office = office_of(*issue("x", days="0 to 59", months=1, record=5, count="thirty", coupon="12 percent",
                                  calls=["31 at 110"]), *holding(), "open x bob", "give state 5000", "days 31",
                           "move x ann bob 4", "recall x", "days 1")
        self.assertEqual(office.answers()[-1], "days 1 owed 1110 paid 1110 closed x")
        self.assertEqual(paid_on(office), {31: [("x", "ann", (670, 1), (670, 1)), ("x", "bob", (440, 1), (440, 1))]})

    def test_a_default_pays_the_holders_of_the_day(self):
        office = office_of("fact debt count", "know debt 1", *issue(
            "x", days="0 to 59", months=1, record=5, count="thirty", coupon="12 percent",
            promises=["p must fact debt < 9 grace 0"]), *holding(), "open x bob", "give state 5000", "days 40",
            "move x ann bob 4", "know debt 9", "days 1")
        # 9 of 30 days of the second period have accrued.
        self.assertEqual(paid_on(office), {
            31: [("x", "ann", (10, 1), (10, 1))],
            40: [("x", "ann", (3009, 5), (3009, 5)), ("x", "bob", (2006, 5), (2006, 5))],
        })


class Calls(unittest.TestCase):
    def test_a_call(self):
        office = office_of(*issue("x", days="0 to 59", count="thirty", coupon="12 percent", calls=["31 at 105"]),
                           *holding(), "give state 5000", "days 31", "recall x")
        self.assertEqual(obey(office, "days 1", "days 100"), ["days 1 owed 1060 paid 1060 closed x", "days 100"])

    def test_a_call_that_is_not_made(self):
        office = office_of(*issue("x", days="0 to 59", coupon="0 percent", calls=["30 at 105"]), *holding(), "days 31")
        self.assertEqual(office.answers()[-1], "days 31")

    def test_a_default_comes_before_a_call(self):
        office = office_of("fact debt count", "know debt 1", *issue(
            "x", days="0 to 59", coupon="0 percent", calls=["30 at 105"], promises=["p must fact debt < 9 grace 0"]),
            *holding(), "give state 5000", "days 30", "recall x", "know debt 9", "days 1")
        self.assertEqual(office.answers()[-1], "days 1 owed 1000 paid 1000 default x")
        self.assertEqual(obey(office, "days 100"), ["days 100"])

    def test_a_call_that_the_new_text_has_no_more(self):
        terms = {"days": "0 to 59", "coupon": "0 percent"}
        lines = [*issue("x", **terms, calls=["30 at 105"]), *holding(), "give state 5000", "days 30", "recall x"]
        change = ["propose x", "vote x ann yes", "decide x 1"]
        office = office_of(*lines, *draft("x", **terms, calls=["31 at 104"]), *change)
        self.assertEqual(obey(office, "days 1", "recall x", "days 1"),
                         ["days 1", "recalled", "days 1 owed 1040 paid 1040 closed x"])
        office = office_of(*lines, *draft("x", **terms, calls=["30 at 104"]), *change)
        self.assertEqual(obey(office, "days 1"), ["days 1 owed 1040 paid 1040 closed x"])

    def test_the_unpaid_price_of_a_call_is_no_default(self):
        office = office_of(*issue("x", days="0 to 59", coupon="0 percent", calls=["30 at 105"]), *holding(), "days 30",
                           "recall x")
        self.assertEqual(obey(office, "days 1", "days 9"), ["days 1 owed 1050 paid 0 closed x", "days 9"])


class Defaults(unittest.TestCase):
    def test_a_missed_payment_and_the_default_on_the_day_after(self):
        office = office_of(*issue("x", days="0 to 90", months=1, count="thirty", coupon="12 percent"), *holding(),
                           "give state 9")
        self.assertEqual(obey(office, "days 32"), ["days 32 owed 10 paid 9"])
        self.assertEqual(office.stage("x"), "good")
        obey(office, "give state 500")
        self.assertEqual(obey(office, "days 1"), ["days 1 owed 3001/3 paid 500 default x"])
        self.assertEqual((office.stage("x"), obey(office, "days 90")), ("default", ["days 90"]))

    def test_a_payment_in_full_is_no_default(self):
        office = office_of(*issue("x", days="0 to 90", months=1, count="thirty", coupon="12 percent"), *holding(),
                           "give state 10", "days 50")
        self.assertEqual((office.answers()[-1], office.stage("x")), ("days 50 owed 10 paid 10", "good"))

    def test_by_a_promise(self):
        office = office_of("fact debt count", "know debt 9", *issue(
            "x", days="0 to 90", coupon="0 percent", promises=["p must fact debt < 9 grace 3"]), *holding(), "days 9")
        self.assertEqual(office.answers()[-1], "days 9 owed 1000 paid 0 default x")
        self.assertEqual(list(paid_on(office)), [3])

    def cross(self, amount, **more):
        """Bonds x and w of state and y of town; x is worth 1000 and breaks its promise on day 3."""
        return office_of(
            "fact debt count", "know debt 1", *issue("y", "town", days="0 to 90", coupon="0 percent", cross="0"),
            *issue("w", days=more.get("days", "0 to 90"), coupon="0 percent", cross=amount,
                   calls=more.get("calls", ["2 at 9", "3 at 8"])),
            *issue("x", days="0 to 90", coupon="0 percent", promises=["p must fact debt < 9 grace 0"]),
            *holding("x", units=1), *holding("w", units=1), "give state 5000", *more.get("lines", ["days 3"]),
            "know debt 9", "days 1",
        )

    def test_by_cross(self):
        self.assertEqual(self.cross(999).answers()[-1], "days 1 owed 200 paid 200 default w x")
        self.assertEqual(self.cross(1000).answers()[-1], "days 1 owed 100 paid 100 default x")
        office = self.cross("0")
        self.assertEqual([office.stage(name) for name in office.bonds()], ["good", "default", "default"])

    def test_waiting_and_closed_bonds_are_exempt(self):
        office = self.cross("0", days="4 to 90", calls=[])
        self.assertEqual((office.answers()[-1], office.stage("w")), ("days 1 owed 100 paid 100 default x", "waiting"))
        # On its first day it is bound by the bond that is in default before.
        self.assertEqual(office.obey("days 1"), "days 1 owed 100 paid 100 default w")
        office = self.cross("0", lines=["days 2", "recall w", "days 1"])
        self.assertEqual((office.answers()[-1], office.stage("w")), ("days 1 owed 100 paid 100 default x", "closed"))

    def test_a_bond_in_default_before_binds_others_though_its_promises_are_kept(self):
        office = self.cross("0", days="6 to 90", calls=[])
        self.assertEqual(obey(office, "know debt 1", "days 2", "days 1"),
                         ["known", "days 2", "days 1 owed 100 paid 100 default w"])

    def test_on_the_day_of_a_call(self):
        office = self.cross("0", lines=["days 3", "recall w"])
        self.assertEqual(office.answers()[-1], "days 1 owed 200 paid 200 default w x")

    def test_on_the_day_of_a_principal(self):
        office = office_of("fact debt count", "know debt 1", *issue(
            "x", days="0 to 31", count="thirty", coupon="12 percent", promises=["p must fact debt < 9 grace 0"]),
            *holding(), "give state 5000", "days 31", "know debt 9", "days 1")
        self.assertEqual(office.answers()[-1], "days 1 owed 1010 paid 1010 default x")
        self.assertEqual(obey(office, "days 9"), ["days 9"])
        self.assertEqual(office.stage("x"), "default")

    def test_a_payment_that_was_missed_the_day_before_the_principal(self):
        office = office_of(*issue("x", days="0 to 32", months=1, count="thirty", coupon="12 percent"), *holding(),
                           "days 32", "give state 50000", "days 1")
        self.assertEqual(office.answers()[-1], "days 1 owed 3001/3 paid 3001/3 default x")

    def test_names_in_the_order_in_which_it_happened(self):
        terms = {"coupon": "0 percent"}
        office = office_of(
            "fact debt count", "know debt 9", *issue("d", days="0 to 6", **terms),
            *issue("c", days="0 to 4", **terms), *issue("b", days="0 to 6", **terms),
            *issue("f", days="0 to 90", **terms, promises=["p must fact debt < 9 grace 4"]),
            *issue("e", days="0 to 90", **terms, promises=["p must fact debt < 9 grace 2"]),
            *issue("a", days="0 to 90", **terms, promises=["p must fact debt < 9 grace 4"]), "days 9",
        )
        self.assertEqual(office.answers()[-1], "days 9 default e f a closed c d b")


class Changes(unittest.TestCase):
    """What a new text means for the stage of a bond afterwards."""

    def office(self, old, new, *more, cross=(None, None)):
        terms = {"days": "2 to 90", "coupon": "0 percent"}
        return office_of(
            "fact debt count", "know debt 9", *issue("x", **terms, promises=old, cross=cross[0]), *holding(),
            *issue("y", **terms, promises=["p must fact debt < 9 grace 6"]), "days 6",
            *draft("x", **terms, promises=new, cross=cross[1]), "propose x", "vote x ann yes", "decide x 1", *more)

    def test_a_promise_that_is_given_up(self):
        office = self.office(["p must fact debt < 9 grace 9"], [])
        # The stage is still that of the last day that was run.
        self.assertEqual(office.stage("x"), "grace")
        self.assertEqual((office.obey("days 1"), office.stage("x")), ("days 1", "good"))

    def test_the_grace_of_a_promise(self):
        old = ["p must fact debt < 9 grace 4"]
        office = self.office(old, old)
        self.assertEqual(office.obey("days 1"), "days 1 owed 1000 paid 0 default x")
        office = self.office(old, ["p must fact debt < 9 grace 5"])
        self.assertEqual((office.obey("days 1"), office.stage("x")), ("days 1", "grace"))
        self.assertIn("default x", office.obey("days 1"))

    def test_a_new_promise_counts_from_the_first_day_on(self):
        for grace, answer in ((4, "days 1 owed 1000 paid 0 default x"), (5, "days 1")):
            office = self.office([], [f"q must fact debt < 9 grace {grace}"])
            self.assertEqual(office.stage("x"), "good")
            self.assertEqual((office.obey("days 1"), office.stage("x")), (answer, "grace" if grace == 5 else "default"))

    def test_a_new_promise_that_looks_back(self):
        office = self.office([], ["q must not before 5 (fact debt = 9) grace 1"], "know debt 1", "days 1")
        # It is broken on the days 5 and 6, which look at the days 0 and 1.
        self.assertEqual((office.answers()[-1], office.stage("x")), ("days 1 owed 1000 paid 0 default x", "default"))
        office = self.office([], ["q must not before 5 (fact debt = 9) grace 2"], "know debt 1", "days 1")
        self.assertEqual((office.answers()[-1], office.stage("x")), ("days 1", "grace"))

    def test_a_new_cross_amount(self):
        # On day 8 the promise of y fails.
        self.assertEqual(self.office([], [], "days 3").answers()[-1], "days 3 default y")
        office = self.office([], [], "days 3", cross=(None, "999"))
        self.assertEqual(office.answers()[-1], "days 3 owed 1000 paid 0 default x y")
        self.assertEqual(self.office([], [], "days 3", cross=("999", "1000")).answers()[-1], "days 3 default y")

    def test_a_new_promise_that_quotes_what_is_no_bond(self):
        office = self.office([], ["q must rate z < 1 percent grace 0"])
        self.assertEqual((office.stage("x"), office.obey("days 1")), ("good", "refused bond z"))
        obey(office, *draft("x", days="2 to 90", coupon="0 percent"), "propose x", "vote x ann yes", "decide x 1")
        self.assertEqual((office.obey("days 1"), office.stage("x")), ("days 1", "good"))

    def test_a_rejected_text_changes_nothing(self):
        terms = {"days": "2 to 90", "coupon": "0 percent"}
        lines = [*issue("x", **terms), *holding(), "days 6"]
        office = office_of(*lines, *draft("x", **terms, promises=["q must false grace 0"]), "propose x", "decide x 1/9")
        self.assertEqual(office.obey("days 50"), "days 50")


class Courses(unittest.TestCase):
    def lines(self):
        return [
            "fact debt count", "know debt 1", "fact base rate", "know base 1/10",
            *issue("x", "a", days="0 to 200", months=1, coupon="rate y + fact base", cross="99", record=3),
            *issue("y", "b", days="0 to 200", months=2, coupon="1/2 * rate x", rank=1, calls=["70 at 104"],
                   promises=["p must always 5 (fact debt < 9) grace 3"]),
            *issue("z", "a", days="20 to 150", months=1, adjust="next", promises=["p must fact debt < 9 grace 5"]),
            *holding("x", "b", 5, "a"), *holding("y", "a", 5, "b"), *holding("z", "ann", 5, "a"),
            *holding("x", "ann", 2, "a"), *holding("y", "bob", 4, "b"), "give a 500", "give b 400",
        ]

    def test_days_in_one_run_and_in_parts(self):
        whole = office_of(*self.lines(), "days 110", "know debt 9", "days 200")
        for parts in ([110] + [1] * 200, [1] * 110 + [200], [55, 55, 3, 100, 97], [109, 1, 199, 1]):
            office = office_of(*self.lines())
            run = 0
            for part in parts:
                if run == 110:
                    obey(office, "know debt 9")
                obey(office, f"days {part}")
                run += part
            self.assertEqual(picture(office), picture(whole))

    def test_a_long_run_stops_at_400_days(self):
        office = Office()
        self.assertEqual([office.obey("days 400"), office.obey("days 401"), office.current_day()],
                         ["days 400", "refused number", 400])


if __name__ == "__main__":
    unittest.main()
