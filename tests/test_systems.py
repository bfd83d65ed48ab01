"""Tests of consol.systems (points 7 to 10)."""

import copy
import random
import unittest
from fractions import Fraction
from itertools import product

from consol.errors import InvalidSystem, TooLarge
from consol.ratios import is_fraction
from consol.systems import contradicts, is_kernel, kernel, rank, solve, solves

ZERO = (0, 1)
ONE = (1, 1)


def pair(value):
    value = Fraction(value)
    return (value.numerator, value.denominator)


def pairs(values):
    return [pair(value) for value in values]


def table(rows):
    return [pairs(row) for row in rows]


def reduced(rows, columns):
    """The reduced echelon form of rows and its pivots, by the schoolbook."""
    rows = [[Fraction(*item) for item in row] for row in rows]
    pivots = []
    for column in range(columns):
        top = len(pivots)
        at = next((k for k in range(top, len(rows)) if rows[k][column] != 0), None)
        if at is None:
            continue
        rows[top], rows[at] = rows[at], rows[top]
        rows[top] = [item / rows[top][column] for item in rows[top]]
        for k, row in enumerate(rows):
            if k != top:
                rows[k] = [a - row[column] * b for a, b in zip(row, rows[top])]
        pivots.append(column)
    return rows, pivots


def told_kernel(rows, columns):
    rows, pivots = reduced(rows, columns)
    free = [column for column in range(columns) if column not in pivots]
    if not free:
        return None
    values = [Fraction(0)] * columns
    values[free[0]] = Fraction(1)
    for row, pivot in zip(rows, pivots):
        values[pivot] = -row[free[0]]
    return pairs(values)


def told_answer(rows, sides):
    """What solve returns; None stands for the factors, which are free."""
    columns = len(rows[0]) if rows else 0
    done, pivots = reduced([row + [side] for row, side in zip(rows, sides)], columns)
    if any(row[columns] != 0 for row in done[len(pivots):]):
        return ("none", None)
    values = [Fraction(0)] * columns
    for row, pivot in zip(done, pivots):
        values[pivot] = row[columns]
    found = told_kernel(rows, columns)
    return ("one", pairs(values)) if found is None else ("several", pairs(values), found)


def some_systems():
    """Systems of many sizes and ranks, most of them with small numbers."""
    chance = random.Random(11)
    for _ in range(400):
        height = chance.randint(0, 5)
        width = chance.randint(0, 5)
        rows = [[pair(Fraction(chance.randint(-2, 2), chance.choice([1, 1, 2, 3]))) for _ in range(width)]
                for _ in range(height)]
        if height > 1 and chance.random() < 0.5:
            rows[-1] = list(rows[0])
        if width > 1 and chance.random() < 0.4:
            for row in rows:
                row[chance.randint(0, 1)] = ZERO
        yield rows, [pair(chance.randint(-2, 2)) for _ in range(height)]
    for size in (3, 4):
        bound = 10 ** 30
        rows = [[pair(Fraction(chance.randint(-bound, bound), chance.randint(1, bound))) for _ in range(size)]
                for _ in range(size)]
        yield rows, [pair(chance.randint(-bound, bound)) for _ in range(size)]


class SolveTest(unittest.TestCase):
    def check(self, rows, sides):
        answer = solve(rows, sides)
        told = told_answer(rows, sides)
        self.assertIs(type(answer), tuple)
        if told[0] == "none":
            self.assertEqual(len(answer), 2)
            self.assertEqual(answer[0], "none")
            self.assertEqual(len(answer[1]), len(rows))
            self.assertTrue(all(is_fraction(factor) for factor in answer[1]))
            self.check_factors(rows, sides, answer[1])
        else:
            self.assertEqual(answer, told)
        return answer

    def check_factors(self, rows, sides, factors):
        factors = [Fraction(*factor) for factor in factors]
        for column in range(len(rows[0])):
            self.assertEqual(sum(Fraction(*row[column]) * factor for row, factor in zip(rows, factors)), 0)
        self.assertNotEqual(sum(Fraction(*side) * factor for side, factor in zip(sides, factors)), 0)

    def test_examples(self):
        self.assertEqual(solve([[ONE, ONE], [ONE, (-1, 1)]], [(3, 1), ONE]), ("one", [(2, 1), ONE]))
        self.assertEqual(solve([[ONE, (2, 1)]], [(4, 1)]), ("several", [(4, 1), ZERO], [(-2, 1), ONE]))
        self.assertEqual(solve([[ZERO]], [(5, 1)])[0], "none")

    def test_some_systems(self):
        kinds = {self.check(rows, sides)[0] for rows, sides in some_systems()}
        self.assertEqual(kinds, {"none", "one", "several"})

    def test_all_small_systems(self):
        for items in product((-1, 0, 1), repeat=6):
            rows = table([items[:2], items[2:4]])
            self.check(rows, pairs(items[4:]))

    def test_no_rows(self):
        self.assertEqual(solve([], []), ("one", []))

    def test_no_columns(self):
        self.assertEqual(solve([[]], [ZERO]), ("one", []))
        self.assertEqual(solve([[], []], [ZERO, ZERO]), ("one", []))
        kind, factors = solve([[], []], [ZERO, (3, 1)])
        self.assertEqual(kind, "none")
        self.assertTrue(contradicts([[], []], [ZERO, (3, 1)], factors))

    def test_the_first_free_column_counts(self):
        rows = table([[0, 1, 2, 0, 3], [0, 0, 0, 1, 4]])
        answer = solve(rows, pairs([5, 6]))
        self.assertEqual(answer, ("several", pairs([0, 5, 0, 6, 0]), pairs([1, 0, 0, 0, 0])))
        rows = table([[1, 2, 0, 3], [0, 0, 1, 4]])
        self.assertEqual(solve(rows, pairs([7, 8])), ("several", pairs([7, 0, 8, 0]), pairs([-2, 1, 0, 0])))

    def test_pivots_are_the_leftmost_columns(self):
        rows = table([[2, 4, 1], [1, 2, 3]])
        self.assertEqual(solve(rows, pairs([5, 5])), ("several", pairs([2, 0, 1]), pairs([-2, 1, 0])))

    def test_only_zeros(self):
        self.assertEqual(solve(table([[0, 0]]), [ZERO]), ("several", [ZERO, ZERO], [ONE, ZERO]))

    def test_sixty_rows_and_columns(self):
        chance = random.Random(3)
        for width in (60, 59):
            rows = [pairs([chance.randint(-3, 3) for _ in range(width)]) for _ in range(60)]
            values = pairs([Fraction(chance.randint(-9, 9), chance.randint(1, 9)) for _ in range(width)])
            sides = [pair(sum(Fraction(*a) * Fraction(*b) for a, b in zip(row, values))) for row in rows]
            self.assertEqual(solve(rows, sides), ("one", values))
        wrong = [*sides[:-1], pair(Fraction(*sides[-1]) + 1)]
        kind, factors = solve(rows, wrong)
        self.assertEqual(kind, "none")
        self.check_factors(rows, wrong, factors)

    def test_new_lists_and_same_arguments(self):
        for rows, sides in [(table([[1, 2], [2, 4]]), pairs([1, 2])), (table([[1, 0], [2, 1]]), pairs([1, 2])),
                            (table([[1, 2], [2, 4]]), pairs([1, 3]))]:
            kept = copy.deepcopy((rows, sides))
            first = solve(rows, sides)
            for part in first[1:]:
                part.clear()
            self.assertNotEqual(solve(rows, sides), first)
            self.assertEqual((rows, sides), kept)


class RankAndKernelTest(unittest.TestCase):
    def test_examples(self):
        self.assertEqual(rank(table([[1, 2], [2, 4]])), 1)
        self.assertEqual(kernel([], 2), [ONE, ZERO])

    def test_some_rows(self):
        for rows, _ in some_systems():
            columns = len(rows[0]) if rows else 0
            self.assertEqual(rank(rows), len(reduced(rows, columns)[1]))
            found = kernel(rows, columns)
            self.assertEqual(found, told_kernel(rows, columns))
            if found is not None and rows:
                self.assertTrue(is_kernel(rows, found))

    def test_edges(self):
        self.assertEqual(rank([]), 0)
        self.assertEqual(rank([[], []]), 0)
        self.assertEqual(rank(table([[0, 0], [0, 0]])), 0)
        self.assertEqual(rank(table([[0, 0, 1]])), 1)
        self.assertIsNone(kernel([], 0))
        self.assertIsNone(kernel([[], []], 0))
        self.assertIsNone(kernel(table([[5]]), 1))
        self.assertEqual(kernel(table([[0]]), 1), [ONE])
        self.assertEqual(kernel([], 60), [ONE] + [ZERO] * 59)
        self.assertEqual(kernel(table([[1, 1, 1]]), 3), pairs([-1, 1, 0]))

    def test_arguments_stay(self):
        rows = table([[1, 2], [2, 4]])
        kept = copy.deepcopy(rows)
        rank(rows)
        kernel(rows, 2).clear()
        self.assertEqual(kernel(rows, 2), pairs([-2, 1]))
        self.assertEqual(rows, kept)


class CheckingTest(unittest.TestCase):
    def test_solves(self):
        rows = table([[1, 1], [1, -1]])
        sides = pairs([3, 1])
        self.assertIs(solves(rows, sides, pairs([2, 1])), True)
        self.assertIs(solves(rows, sides, pairs([2, 2])), False)
        self.assertIs(solves(rows, sides, pairs([1, 2])), False)
        self.assertIs(solves(rows, sides, pairs([2])), False)
        self.assertIs(solves(rows, sides, pairs([2, 1, 0])), False)
        self.assertIs(solves(rows, sides, []), False)

    def test_solves_one_row_alone(self):
        rows = table([[1, 0], [0, 1]])
        self.assertIs(solves(rows, pairs([1, 2]), pairs([1, 3])), False)
        self.assertIs(solves(rows, pairs([1, 2]), pairs([0, 2])), False)

    def test_solves_without_rows_or_columns(self):
        self.assertIs(solves([], [], []), True)
        self.assertIs(solves([], [], [ZERO]), False)
        self.assertIs(solves([[]], [ZERO], []), True)
        self.assertIs(solves([[]], [ONE], []), False)
        self.assertIs(solves([[]], [ZERO], [ZERO]), False)

    def test_contradicts(self):
        rows = table([[1, 2], [2, 4]])
        sides = pairs([1, 3])
        self.assertIs(contradicts(rows, sides, pairs([2, -1])), True)
        self.assertIs(contradicts(rows, sides, pairs([Fraction(-2, 3), Fraction(1, 3)])), True)
        self.assertIs(contradicts(rows, sides, pairs([1, -1])), False)
        self.assertIs(contradicts(rows, sides, pairs([0, 0])), False)
        self.assertIs(contradicts(rows, pairs([1, 2]), pairs([2, -1])), False)
        self.assertIs(contradicts(rows, sides, pairs([2])), False)
        self.assertIs(contradicts(rows, sides, pairs([2, -1, 0])), False)
        self.assertIs(contradicts(rows, sides, []), False)
        self.assertIs(contradicts(table([[0, 1]]), [ONE], [ONE]), False)
        self.assertIs(contradicts(table([[1, 0]]), [ONE], [ONE]), False)

    def test_contradicts_without_rows_or_columns(self):
        self.assertIs(contradicts([], [], []), False)
        self.assertIs(contradicts([[]], [ONE], [ONE]), True)
        self.assertIs(contradicts([[]], [ZERO], [ONE]), False)
        self.assertIs(contradicts([[]], [ONE], []), False)

    def test_is_kernel(self):
        rows = table([[1, 2, 0], [0, 0, 1]])
        self.assertIs(is_kernel(rows, pairs([-2, 1, 0])), True)
        self.assertIs(is_kernel(rows, pairs([4, -2, 0])), True)
        self.assertIs(is_kernel(rows, pairs([0, 0, 0])), False)
        self.assertIs(is_kernel(rows, pairs([-2, 1, 1])), False)
        self.assertIs(is_kernel(rows, pairs([-2, 2, 0])), False)
        self.assertIs(is_kernel(rows, pairs([-2, 1])), False)
        self.assertIs(is_kernel(rows, pairs([-2, 1, 0, 0])), False)
        self.assertIs(is_kernel(rows, []), False)
        self.assertIs(is_kernel([], []), False)
        self.assertIs(is_kernel([[]], []), False)
        self.assertIs(is_kernel(table([[0]]), pairs([7])), True)

    def test_two_solutions_differ_by_a_kernel_list(self):
        rows = table([[1, 1, 1]])
        _, values, nothing = solve(rows, [(3, 1)])
        other = pairs([Fraction(*a) + 5 * Fraction(*b) for a, b in zip(values, nothing)])
        self.assertTrue(solves(rows, [(3, 1)], other))


class WrongSystemsTest(unittest.TestCase):
    def check_reason(self, call, *arguments):
        with self.assertRaises(InvalidSystem) as caught:
            call(*arguments)
        self.assertIs(type(caught.exception.reason), str)

    def check_limit(self, call, *arguments):
        with self.assertRaises(TooLarge) as caught:
            call(*arguments)
        self.assertEqual(caught.exception.limit, "system")

    def test_rows_of_different_lengths(self):
        for rows in (table([[1, 2], [3]]), table([[1], [2, 3]]), table([[], [1]]), table([[1], []]),
                     table([[1], [2], [3], [4, 5]])):
            self.check_reason(rank, rows)
            self.check_reason(solve, rows, [ZERO] * len(rows))
            self.check_reason(kernel, rows, len(rows[0]))
            self.check_reason(kernel, rows, len(rows[-1]))

    def test_number_of_sides(self):
        self.check_reason(solve, table([[1]]), [])
        self.check_reason(solve, table([[1]]), pairs([1, 2]))
        self.check_reason(solve, [], [ONE])
        self.check_reason(solve, [[], []], [ONE])

    def test_number_of_columns(self):
        self.check_reason(kernel, table([[1, 2]]), 1)
        self.check_reason(kernel, table([[1, 2]]), 3)
        self.check_reason(kernel, table([[1, 2]]), 0)
        self.check_reason(kernel, [[]], 1)

    def test_sixty_one(self):
        tall = [[ONE]] * 61
        wide = [[ONE] * 61]
        self.check_limit(rank, tall)
        self.check_limit(rank, wide)
        self.check_limit(rank, [[]] * 61)
        self.check_limit(solve, tall, [ONE] * 61)
        self.check_limit(solve, wide, [ONE])
        self.check_limit(kernel, tall, 1)
        self.check_limit(kernel, wide, 61)
        self.check_limit(kernel, [], 61)

    def test_sixty(self):
        self.assertEqual(rank([[ONE] * 60] * 60), 1)
        self.assertEqual(solve([[ONE]] * 60, [(2, 1)] * 60), ("one", [(2, 1)]))
        self.assertEqual(solve([[ONE] * 60], [ONE])[1], [ONE] + [ZERO] * 59)
        self.assertEqual(kernel([[ONE] * 60] * 60, 60), pairs([-1, 1] + [0] * 58))

    def test_no_system_comes_before_too_large(self):
        self.check_reason(rank, [[ONE]] * 61 + [[]])
        self.check_reason(solve, [[ONE]] * 61, [ONE])
        self.check_reason(solve, [[ONE] * 61], [])
        self.check_reason(kernel, [[ONE] * 61], 60)
        self.check_reason(kernel, [[ONE]] * 61, 61)


if __name__ == "__main__":
    unittest.main()
