"""Tests of consol.books (points 67 to 69)."""

import copy
import random
import unittest
from fractions import Fraction

from consol.books import Books
from consol.errors import AccountTaken, InvalidDay, Unbalanced, UnknownAccount
from helping import error_of

ZERO = (0, 1)


def some_books(*names):
    books = Books()
    for name in names or ("ann", "bob", "cat"):
        books.open_account(name)
    return books


def picture(books):
    return books.accounts(), books.postings(), [books.statement(name) for name in books.accounts()], books.latest_day


class Examples(unittest.TestCase):
    def test_examples(self):
        books = Books()
        self.assertEqual((books.open_account("ann"), books.open_account("bob")), (None, None))
        self.assertEqual(books.post(3, [("ann", (-5, 2)), ("bob", (5, 2))]), 0)
        self.assertEqual((books.balance("bob"), books.balance_on("bob", 2), books.statement("ann")),
                         ((5, 2), (0, 1), [(3, 0, (-5, 2), (-5, 2))]))
        self.assertEqual(error_of(books.post, 4, [("ann", (1, 1))]), (Unbalanced, {"rest": (1, 1)}))
        self.assertEqual(error_of(books.post, 2, []), (InvalidDay, {}))


class Accounts(unittest.TestCase):
    def test_at_the_beginning(self):
        self.assertEqual(picture(Books()), ([], [], [], -1))

    def test_order_of_opening(self):
        books = some_books("the world", "b", "a", " ")
        self.assertEqual(books.accounts(), ["the world", "b", "a", " "])
        self.assertEqual([books.balance(name) for name in books.accounts()], [ZERO] * 4)

    def test_taken_and_empty_names(self):
        books = some_books()
        for name in ("ann", "cat", ""):
            self.assertEqual(error_of(books.open_account, name), (AccountTaken, {"name": name}))
        self.assertEqual(books.accounts(), ["ann", "bob", "cat"])

    def test_unknown_accounts(self):
        books = some_books()
        for name in ("dan", ""):
            error = (UnknownAccount, {"name": name})
            self.assertEqual(error_of(books.balance, name), error)
            self.assertEqual(error_of(books.balance_on, name, 3), error)
            self.assertEqual(error_of(books.statement, name), error)


class Postings(unittest.TestCase):
    def test_numbers(self):
        books = some_books()
        entries = [("ann", (1, 1)), ("bob", (-1, 1))]
        self.assertEqual([books.post(day, entries) for day in (0, 0, 4, 4, 9)], [0, 1, 2, 3, 4])
        self.assertEqual(books.postings(), [(day, entries) for day in (0, 0, 4, 4, 9)])
        self.assertEqual(books.latest_day, 9)

    def test_a_posting_without_entries(self):
        books = some_books()
        self.assertEqual((books.post(2, []), books.post(2, [])), (0, 1))
        self.assertEqual((books.postings(), books.latest_day), ([(2, []), (2, [])], 2))
        self.assertEqual(books.statement("ann"), [])
        self.assertEqual(Books().post(0, []), 0)

    def test_an_account_several_times(self):
        books = some_books()
        books.post(1, [("ann", (1, 2)), ("bob", (-1, 1)), ("ann", (1, 3)), ("ann", (1, 6))])
        self.assertEqual(books.statement("ann"), [(1, 0, (1, 1), (1, 1))])
        self.assertEqual(books.statement("bob"), [(1, 0, (-1, 1), (-1, 1))])
        self.assertEqual(books.statement("cat"), [])
        self.assertEqual(len(books.postings()[0][1]), 4)

    def test_amounts_of_zero_and_amounts_that_sum_to_zero(self):
        books = some_books()
        books.post(1, [("ann", ZERO)])
        books.post(2, [("ann", (5, 1)), ("ann", (-5, 1))])
        self.assertEqual(books.statement("ann"), [(1, 0, ZERO, ZERO), (2, 1, ZERO, ZERO)])

    def test_statements(self):
        books = some_books()
        books.post(1, [("ann", (-3, 1)), ("bob", (3, 1))])
        books.post(1, [("cat", (-1, 2)), ("bob", (1, 2))])
        books.post(5, [("bob", (-2, 1)), ("ann", (2, 1))])
        self.assertEqual(books.statement("ann"), [(1, 0, (-3, 1), (-3, 1)), (5, 2, (2, 1), (-1, 1))])
        self.assertEqual(books.statement("bob"),
                         [(1, 0, (3, 1), (3, 1)), (1, 1, (1, 2), (7, 2)), (5, 2, (-2, 1), (3, 2))])

    def test_balances_on_days(self):
        books = some_books()
        books.post(3, [("ann", (-3, 1)), ("bob", (3, 1))])
        books.post(3, [("ann", (-1, 1)), ("bob", (1, 1))])
        books.post(7, [("ann", (-5, 1)), ("cat", (5, 1))])
        wanted = {-1: 0, 0: 0, 2: 0, 3: -4, 4: -4, 6: -4, 7: -9, 8: -9, 1000: -9}
        self.assertEqual({day: books.balance_on("ann", day) for day in wanted},
                         {day: (amount, 1) for day, amount in wanted.items()})
        self.assertEqual((books.balance("ann"), books.balance("cat"), books.balance_on("cat", 6)),
                         ((-9, 1), (5, 1), ZERO))


class Refused(unittest.TestCase):
    def test_errors_change_nothing(self):
        books = some_books()
        books.post(5, [("ann", (-3, 1)), ("bob", (3, 1))])
        before = copy.deepcopy(picture(books))
        even = [("ann", (1, 1)), ("bob", (-1, 1))]
        for day, entries, error in (
            (4, even, (InvalidDay, {})),
            (-1, even, (InvalidDay, {})),
            (5, [("ann", (1, 1)), ("dan", (-1, 1))], (UnknownAccount, {"name": "dan"})),
            (5, [("eve", (1, 1)), ("dan", (-1, 1))], (UnknownAccount, {"name": "eve"})),
            (6, [("ann", (1, 1)), ("bob", (-1, 2)), ("ann", (1, 3))], (Unbalanced, {"rest": (5, 6)})),
            (6, [("ann", (-1, 1))], (Unbalanced, {"rest": (-1, 1)})),
        ):
            self.assertEqual(error_of(books.post, day, entries), error)
            self.assertEqual(picture(books), before)

    def test_a_day_below_zero_in_new_books(self):
        books = some_books()
        self.assertEqual(error_of(books.post, -1, []), (InvalidDay, {}))
        self.assertEqual(error_of(books.post, -2, []), (InvalidDay, {}))
        self.assertEqual(books.postings(), [])

    def test_order_of_the_checks(self):
        books = some_books()
        books.post(5, [])
        self.assertEqual(error_of(books.post, 4, [("dan", (1, 1))]), (InvalidDay, {}))
        self.assertEqual(error_of(books.post, 4, [("ann", (1, 1))]), (InvalidDay, {}))
        self.assertEqual(error_of(books.post, 5, [("ann", (1, 1)), ("dan", (1, 1))]),
                         (UnknownAccount, {"name": "dan"}))


class Facts(unittest.TestCase):
    def test_balances_sum_to_zero(self):
        chance = random.Random(68)
        books = some_books("a", "b", "c", "d")
        day = 0
        wanted = {}
        for _ in range(60):
            day += chance.choice([0, 0, 1, 3])
            amounts = [Fraction(chance.randint(-9, 9), chance.randint(1, 6)) for _ in range(chance.randint(0, 4))]
            amounts.append(-sum(amounts, Fraction(0)))
            entries = [(chance.choice("abcd"), amount.as_integer_ratio()) for amount in amounts]
            books.post(day, entries)
            for name, amount in entries:
                for on in range(day, 200):
                    wanted[(name, on)] = wanted.get((name, on), 0) + Fraction(*amount)
        for on in range(0, 200, 7):
            found = [Fraction(*books.balance_on(name, on)) for name in books.accounts()]
            self.assertEqual(found, [wanted.get((name, on), 0) for name in books.accounts()])
            self.assertEqual(sum(found), 0)
        for name in books.accounts():
            rows = books.statement(name)
            self.assertEqual([row[1] for row in rows], [at for at, (_, entries) in enumerate(books.postings())
                                                        if name in dict(entries)])
            self.assertEqual(rows[-1][3], books.balance(name))

    def test_lists_are_new(self):
        books = some_books()
        entries = [("ann", (1, 1)), ("bob", (-1, 1))]
        books.post(1, entries)
        before = copy.deepcopy(picture(books))
        entries.append(("cat", (1, 1)))
        books.accounts().append("dan")
        books.statement("ann").append(None)
        books.postings().append(None)
        books.postings()[0][1].append(("cat", (1, 1)))
        self.assertEqual(picture(books), before)


if __name__ == "__main__":
    unittest.main()
