import random
import unittest
from fractions import Fraction
from itertools import product as all_of

from shutopen.tables import independent, null_rows, rank, reduced, solution
from tests.helpers import dot, frac, fraction_list, fracs, pair, row


def small_tables():
    """Tables with up to three rows, with zeros, equal and dependent rows among them."""
    rnd = random.Random(5)
    items = [row(0, 0, 0), row(1, 0, 0), row(0, 2, 0), row(0, 0, "1/3"), row(1, 2, 0), row(2, 4, 0), row(-1, 1, "1/2")]
    tables = [([], 0), ([], 3), ([()], 0), ([(), ()], 0)]
    tables += [(list(rows), 3) for rows in all_of(items, repeat=2)]
    tables += [(list(rows), 3) for rows in all_of(items, repeat=3)]
    for _ in range(300):
        width = rnd.randint(1, 5)
        rows = [fraction_list(rnd, width, -2, 2, 2) for _ in range(rnd.randint(0, 5))]
        if len(rows) > 2:
            rows.insert(rnd.randint(0, len(rows)), mixed(rows[:2], [rnd.randint(-2, 2), Fraction(1, 2)], width))
        tables.append((rows, width))
    return tables


def mixed(rows, weights, width):
    return tuple([pair(sum(frac(line[at]) * weight for line, weight in zip(rows, weights))) for at in range(width)])


def pivot_of(line):
    return next(at for at, item in enumerate(line) if item != (0, 1))


class TestTables(unittest.TestCase):
    def assert_in_span(self, line, steps):
        """A row is a sum of multiples of rows of a reduced table: by the items at the pivots."""
        weights = [frac(line[pivot_of(step)]) for step in steps]
        self.assertEqual(mixed(steps, weights, len(line)), tuple(line))

    def test_examples(self):
        self.assertEqual(reduced([row(2, 4, 6), row(1, 2, 4)]), [row(1, 2, 0), row(0, 0, 1)])
        self.assertEqual(reduced([row(0, 0, 3), row(0, "1/2", 1)]), [row(0, 1, 0), row(0, 0, 1)])
        self.assertEqual(reduced([row(-2, 1)]), [row(1, "-1/2")])
        self.assertEqual(reduced([row(0, 0), row(0, 0)]), [])
        self.assertEqual(reduced([]), [])
        self.assertEqual(reduced([(), ()]), [])
        self.assertEqual(rank([]), 0)
        self.assertEqual(rank([()]), 0)
        self.assertEqual(rank([row(0, 0)]), 0)
        self.assertEqual(rank([row(1, 1), row(1, 1)]), 1)
        self.assertEqual(rank([row(1, 1), row(1, 2), row(0, 5)]), 2)

    def test_reduced_tables_have_their_form(self):
        for rows, width in small_tables():
            found = reduced(rows)
            self.assertIsInstance(found, list)
            pivots = []
            for line in found:
                self.assertEqual(len(fracs(line)), width)
                pivots.append(pivot_of(line))
                self.assertEqual(line[pivots[-1]], (1, 1))
            self.assertEqual(pivots, sorted(set(pivots)))
            for at, line in enumerate(found):
                for other, pivot in enumerate(pivots):
                    self.assertEqual(line[pivot], (1, 1) if at == other else (0, 1))

    def test_reduced_tables_have_the_same_sums(self):
        for rows, _ in small_tables():
            found = reduced(rows)
            self.assertEqual(rank(rows), len(found))
            for line in rows:
                self.assert_in_span(line, found)
            # Each row of it is a sum of rows of the table: it brings nothing new behind them.
            for line in found:
                self.assertEqual(rank([*rows, line]), len(found))
                self.assertNotIn(len(rows), independent([*rows, line]))

    def test_independent_rows(self):
        self.assertEqual(independent([]), [])
        self.assertEqual(independent([(), ()]), [])
        self.assertEqual(independent([row(0, 0), row(1, 2), row(2, 4), row(0, 1), row(5, 5)]), [1, 3])
        self.assertEqual(independent([row(1), row(1)]), [0])
        for rows, _ in small_tables():
            found = independent(rows)
            self.assertIsInstance(found, list)
            for at in range(len(rows)):
                grows = len(reduced(rows[:at + 1])) > len(reduced(rows[:at]))
                self.assertEqual(at in found, grows)
            self.assertEqual(found, sorted(found))

    def test_null_rows(self):
        self.assertEqual(null_rows([], 0), [])
        self.assertEqual(null_rows([], 2), [row(1, 0), row(0, 1)])
        self.assertEqual(null_rows([row(0, 0)], 2), [row(1, 0), row(0, 1)])
        self.assertEqual(null_rows([row(1, 2, 0), row(0, 0, 3)], 3), [row(-2, 1, 0)])
        self.assertEqual(null_rows([row(0, 2, "1/2")], 3), [row(1, 0, 0), row(0, "-1/4", 1)])
        self.assertEqual(null_rows([row(1, 0), row(1, 1)], 2), [])
        for rows, width in small_tables():
            pivots = [pivot_of(line) for line in reduced(rows)]
            free = [place for place in range(width) if place not in pivots]
            found = null_rows(rows, width)
            self.assertIsInstance(found, list)
            self.assertEqual(len(found), len(free))
            for place, line in zip(free, found):
                self.assertEqual(len(fracs(line)), width)
                self.assertEqual([line[at] for at in free], [(1, 1) if at == place else (0, 1) for at in free])
                self.assertEqual([dot(line, other) for other in rows], [0] * len(rows))

    def test_solutions(self):
        rnd = random.Random(6)
        for rows, width in small_tables():
            given = fraction_list(rnd, width)
            goals = tuple([pair(dot(line, given)) for line in rows])
            found = solution(rows, goals, width)
            self.assertEqual(len(fracs(found)), width)
            self.assertEqual([dot(line, found) for line in rows], fracs(goals))
            pivots = [pivot_of(line) for line in reduced(rows)]
            self.assertEqual([found[at] for at in range(width) if at not in pivots], [(0, 1)] * (width - len(pivots)))

    def test_goals_that_contradict_each_other(self):
        self.assertIsNone(solution([row(1, 2), row(2, 4)], row(1, 3), 2))
        self.assertIsNone(solution([row(1, 2), row(1, 2)], row(1, "1/2"), 2))
        self.assertIsNone(solution([row(0, 0)], row(1), 2))
        self.assertIsNone(solution([()], row(1), 0))
        self.assertIsNone(solution([row(1, 0), row(0, 1), row(1, 1)], row(1, 1, 3), 2))
        self.assertEqual(solution([row(1, 0), row(0, 1), row(1, 1)], row(1, 1, 2), 2), row(1, 1))

    def test_solutions_without_rows(self):
        self.assertEqual(solution([], (), 0), ())
        self.assertEqual(solution([], (), 2), row(0, 0))
        self.assertEqual(solution([()], row(0), 0), ())
        self.assertEqual(solution([row(0, 0)], row(0), 2), row(0, 0))

    def test_random_goals(self):
        rnd = random.Random(7)
        for rows, width in small_tables():
            goals = fraction_list(rnd, len(rows), -1, 1, 1)
            found = solution(rows, goals, width)
            # There is a solution exactly if the goals do not make the table have another rank.
            longer = [(*line, goal) for line, goal in zip(rows, goals)]
            self.assertEqual(found is None, rank(longer) > rank(rows))
            if found is not None:
                self.assertEqual([dot(line, found) for line in rows], fracs(goals))

    def test_arguments_stay_and_may_be_tuples_and_named(self):
        rows = [row(2, 4), row(1, 3)]
        before = list(rows)
        self.assertEqual(reduced(rows=tuple(rows)), reduced(rows))
        self.assertEqual(rank(rows=tuple(rows)), 2)
        self.assertEqual(independent(rows=tuple(rows)), [0, 1])
        self.assertEqual(null_rows(width=2, rows=tuple(rows)), [])
        self.assertEqual(solution(width=2, goals=row(6, 4), rows=tuple(rows)), row(1, 1))
        self.assertEqual(rows, before)

    def test_large_items(self):
        rows = [(pair(Fraction(10 ** 30, 7)), pair(Fraction(1, 10 ** 30))), (pair(Fraction(3, 11)), pair(10 ** 29))]
        goals = row("1/3", "-7/5")
        found = solution(rows, goals, 2)
        self.assertEqual([dot(line, found) for line in rows], fracs(goals))
        self.assertEqual(reduced(rows), [row(1, 0), row(0, 1)])
