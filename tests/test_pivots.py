import random
import signal
import unittest
from fractions import Fraction

from shutopen.pivots import met, solve, solve_in_order
from tests.helpers import basic_mixtures, dot, frac, fraction_list, fracs, pair, row, summed


def random_tasks(seed, many):
    """Small tasks of all three kinds, with zeros, equal columns, dependent goals and ties."""
    rnd = random.Random(seed)
    for _ in range(many):
        width = rnd.randint(0, 4)
        columns = [fraction_list(rnd, width, -2, 3, rnd.choice([1, 1, 3])) for _ in range(rnd.randint(0, 5))]
        if columns and rnd.random() < 0.3:
            columns.append(rnd.choice(columns))
        if rnd.random() < 0.2:
            columns.append(row(*[0] * width))
        if width > 1 and rnd.random() < 0.3:
            columns = [(*column[:-1], column[0]) for column in columns]
        goals = fraction_list(rnd, width, -3, 3, 2)
        if rnd.random() < 0.7:
            weights = fraction_list(rnd, len(columns), 0, 3, 2)
            goals = tuple([pair(item) for item in summed(columns, weights, width)])
        yield columns, goals, fraction_list(rnd, len(columns), rnd.choice([-2, 0, 0]), 3, rnd.choice([1, 2]))


def none_negative(line):
    return all(item >= 0 for item in fracs(line))


class TaskCase(unittest.TestCase):
    def hold(self, found, columns, goals, costs):
        """Holds a result against the sums that its entry promises."""
        width = len(goals)
        self.assertIsInstance(found, tuple)
        if found[0] == "none":
            _, prices = found
            self.assertEqual(len(prices), width)
            for column in columns:
                self.assertLessEqual(dot(column, prices), 0)
            self.assertGreater(dot(goals, prices), 0)
            return
        self.assertIn(found[0], ("least", "down"))
        _, x, paper = found
        self.assertTrue(none_negative(x))
        self.assertEqual(summed(columns, x, width), fracs(goals))
        if found[0] == "least":
            self.assertEqual(len(paper), width)
            for column, cost, part in zip(columns, costs, x):
                self.assertLessEqual(dot(column, paper), frac(cost))
                if part != (0, 1):
                    self.assertEqual(dot(column, paper), frac(cost))
        else:
            self.assertTrue(none_negative(paper))
            self.assertEqual(summed(columns, paper, width), [0] * width)
            self.assertLess(dot(paper, costs), 0)


class TestSolve(TaskCase):
    def both(self, columns, goals, costs, word):
        for function in (solve, solve_in_order):
            found = function(columns, goals, costs)
            self.assertEqual(found[0], word)
            self.hold(found, columns, goals, costs)
            self.assertEqual(function(list(columns), goals, costs), found)

    def test_random_tasks(self):
        words = {"least": 0, "none": 0, "down": 0}
        for columns, goals, costs in random_tasks(11, 1500):
            found = solve(columns, goals, costs)
            self.hold(found, columns, goals, costs)
            self.assertEqual(solve(columns, goals, costs), found)
            words[found[0]] += 1
        self.assertGreater(min(words.values()), 100)

    def test_no_columns(self):
        self.both([], (), (), "least")
        self.both([], row(0, 0), (), "least")
        self.both([], row(0, 3), (), "none")
        self.both([], row("-1/2"), (), "none")
        self.assertEqual(solve([], (), ()), ("least", (), ()))

    def test_no_goals(self):
        self.both([(), ()], (), row(0, 2), "least")
        self.both([(), ()], (), row(1, -2), "down")
        self.assertEqual(solve([(), ()], (), row(0, 2)), ("least", row(0, 0), ()))

    def test_zero_columns(self):
        self.both([row(0, 0), row(1, 1)], row(2, 2), row(3, 5), "least")
        self.both([row(0, 0), row(1, 1)], row(2, 2), row(0, 5), "least")
        self.both([row(0, 0), row(1, 1)], row(2, 2), row(-1, 5), "down")
        self.both([row(0, 0)], row(0, 1), row(-1), "none")
        self.both([row(0, 0)], row(0, 0), row(-1), "down")

    def test_equal_columns(self):
        self.both([row(1), row(1)], row(3), row(2, 1), "least")
        self.both([row(1), row(1)], row(3), row(1, 1), "least")
        self.assertEqual(solve([row(1), row(1)], row(3), row(2, 1))[1], row(0, 3))
        self.assertEqual(solve_in_order([row(1), row(1)], row(3), row(1, 1))[1], row(0, 3))

    def test_tasks_to_which_none_and_down_would_apply(self):
        self.both([row(0, 0), row(1, 0)], row(0, 1), row(-1, -1), "none")
        self.both([row(1, 0), row(-1, 0)], row(0, 1), row(-1, 0), "none")
        self.both([row(1), row(-1), row(1)], row(5), row(-1, 0, 0), "down")
        self.both([row(1, 1), row(-1, -1)], row(1, 2), row(-5, 1), "none")

    def test_goals_of_both_signs_and_dependent_goals(self):
        self.both([row(-1, 1), row(2, 0)], row(-3, 3), row(1, 1), "least")
        self.both([row(1, 2), row(3, 6)], row(4, 8), row(1, 1), "least")
        self.both([row(1, 2), row(3, 6)], row(4, 7), row(1, 1), "none")
        self.both([row(1, -1, 0), row(-1, 1, 0)], row(0, 0, 0), row(1, 1), "least")
        self.both([row(1, -1, 0), row(-1, 1, 0)], row(0, 0, 0), row(1, "-3/2"), "down")

    def test_degenerate_task_ends(self):
        # A task in which the rule of the steepest cost goes round in a circle.
        columns = [row("1/4", "1/2", 0), row(-60, -90, 0), row("-1/25", "-1/50", 1), row(9, 3, 0), row(1, 0, 0), row(0, 1, 0),
                   row(0, 0, 1)]
        costs = row("-3/4", 150, "-1/50", 6, 0, 0, 0)
        self.both(columns, row(0, 0, 1), costs, "least")
        self.assertEqual(dot(solve(columns, row(0, 0, 1), costs)[1], costs), Fraction(-1, 20))

    def test_tasks_in_which_exchanges_could_go_round_in_a_circle(self):
        # Each of them never ends if, of columns that could leave at once, not the least one leaves.
        tasks = [([[9, 8, 5], [7, 1, -2], [0, 1, 0], [1, 0, 0], [6, 3, -5], [-9, 7, 4], [8, -5, -1], [3, 6, -6], [0, 0, 1],
                   [4, 1, -5]], [1, -2, 0, 0, -6, -5, 5, -3, 0, -8]),
                 ([[-7, -7, 0], [5, 7, -7], [-7, -9, 3], [-8, -6, 7], [0, 1, 0], [2, -9, 2], [1, 0, 0], [0, 0, 1]],
                  [0, -2, -6, 0, 0, 7, 0, 0]),
                 ([[4, 4, -4], [4, -4, -1], [-2, 0, -3], [-1, 4, -1], [-2, -4, -4], [0, -2, 2], [1, 0, 0], [4, 3, 2], [0, 0, 1],
                   [0, 1, 0]], [4, -2, 3, 2, -2, 4, 0, 4, 0, 0])]
        signal.alarm(60)
        for columns, costs in tasks:
            columns = [row(*column) for column in columns]
            for function in (solve, solve_in_order):
                self.hold(function(columns, row(0, 0, 0), row(*costs)), columns, row(0, 0, 0), row(*costs))
        signal.alarm(0)

    def test_large_numbers(self):
        great = pair(Fraction(10 ** 30 - 1, 17))
        self.both([(great, (1, 3)), ((-3, 10 ** 29), great), ((1, 1), (1, 1))], (great, great), (great, (1, 1), (10 ** 30, 1)),
                  "least")

    def test_lists_and_tuples_and_names(self):
        columns = [row(1, 1), row(1, 0)]
        for function in (solve, solve_in_order):
            found = function(columns=tuple(columns), goals=row(3, 1), costs=row(1, 1))
            self.assertEqual(found, ("least", row(1, 2), row(1, 0)))
            self.assertEqual(function(costs=row(1, 1), columns=columns, goals=row(3, 1)), found)
        self.assertEqual(columns, [row(1, 1), row(1, 0)])


class TestSolveInOrder(TaskCase):
    def test_least_in_order_against_all_mixtures(self):
        words = {"least": 0, "none": 0, "down": 0}
        for columns, goals, costs in random_tasks(12, 1000):
            found = solve_in_order(columns, goals, costs)
            self.hold(found, columns, goals, costs)
            self.assertEqual(found[0], solve(columns, goals, costs)[0])
            words[found[0]] += 1
            mixtures = basic_mixtures(columns, goals)
            self.assertEqual(found[0] == "none", not mixtures)
            if found[0] == "least":
                burdens = [sum(a * frac(b) for a, b in zip(mixture, costs)) for mixture in mixtures]
                least = min(mixture for mixture, burden in zip(mixtures, burdens) if burden == min(burdens))
                self.assertEqual(fracs(found[1]), least)
        self.assertGreater(min(words.values()), 50)

    def test_ties_go_to_the_least_first_item_then_the_second(self):
        columns = [row(1), row(1), row(1), row(2)]
        self.assertEqual(solve_in_order(columns, row(6), row(1, 1, 1, 2))[1], row(0, 0, 0, 3))
        self.assertEqual(solve_in_order(columns, row(6), row(1, 1, 1, 3))[1], row(0, 0, 6, 0))
        self.assertEqual(solve_in_order(columns, row(6), row(1, 1, 2, 3))[1], row(0, 6, 0, 0))
        self.assertEqual(solve_in_order(columns, row(6), row(1, 2, 2, 3))[1], row(6, 0, 0, 0))
        self.assertEqual(solve_in_order(columns, row(6), row(0, 0, 0, 0))[1], row(0, 0, 0, 3))

    def test_a_least_first_item_above_zero(self):
        columns = [row(1, 0, 0), row(0, 1, 0), row(1, 1, 1), row(0, 0, 1)]
        found = solve_in_order(columns, row(3, 2, 1), row(0, 0, 0, 0))
        self.assertEqual(found[1], row(2, 1, 1, 0))

    def test_columns_without_cost_and_without_numbers_stay_out(self):
        self.assertEqual(solve_in_order([row(0), row(1), row(0)], row(2), row(0, 1, 0))[1], row(0, 2, 0))

    def test_not_in_order_of_costs_alone(self):
        # The first item is as small as the least product allows, not smaller.
        found = solve_in_order([row(1, 1), row(1, 0), row(0, 1)], row(2, 3), row(1, 1, 1))
        self.assertEqual(found[1], row(2, 0, 1))


class TestMet(unittest.TestCase):
    def hold(self, found, rows, limits, width):
        self.assertIsInstance(found, tuple)
        word, paper = found
        if word == "met":
            self.assertEqual(len(fracs(paper)), width)
            for line, limit in zip(rows, limits):
                self.assertLessEqual(dot(line, paper), frac(limit))
        else:
            self.assertEqual(word, "broken")
            self.assertEqual(len(paper), len(rows))
            self.assertTrue(none_negative(paper))
            self.assertEqual(summed(rows, paper, width), [0] * width)
            self.assertLess(dot(limits, paper), 0)

    def both(self, rows, limits, width, word):
        found = met(rows, limits, width)
        self.assertEqual(found[0], word)
        self.hold(found, rows, limits, width)
        self.assertEqual(met(tuple(rows), limits, width), found)

    def test_random_limits(self):
        rnd = random.Random(13)
        words = {"met": 0, "broken": 0}
        for _ in range(1000):
            width = rnd.randint(0, 4)
            rows = [fraction_list(rnd, width, -2, 2, 2) for _ in range(rnd.randint(0, 6))]
            limits = fraction_list(rnd, len(rows), -3, 2, 2)
            found = met(rows, limits, width)
            self.hold(found, rows, limits, width)
            words[found[0]] += 1
        self.assertGreater(min(words.values()), 100)

    def test_without_rows_or_width(self):
        self.both([], (), 0, "met")
        self.both([], (), 3, "met")
        self.both([(), ()], row(0, 2), 0, "met")
        self.both([()], row(-1), 0, "broken")

    def test_zero_rows(self):
        self.both([row(0, 0)], row(0), 2, "met")
        self.both([row(0, 0), row(1, 0)], row("-1/2", 1), 2, "broken")

    def test_equal_and_opposite_rows(self):
        self.both([row(1, 1), row(1, 1)], row(2, -3), 2, "met")
        self.both([row(1, 1), row(-1, -1)], row(2, -2), 2, "met")
        self.both([row(1, 1), row(-1, -1)], row(2, -3), 2, "broken")
        self.both([row(1, 0), row(0, 1), row(-1, -1)], row(-1, -2, 3), 2, "met")
        self.both([row(1, 0), row(0, 1), row(-1, -1)], row(-1, -2, "5/2"), 2, "broken")

    def test_negative_items_are_allowed(self):
        self.both([row(1)], row(-7), 1, "met")
        self.assertLessEqual(frac(met([row(1)], row(-7), 1)[1][0]), -7)

    def test_names(self):
        self.assertEqual(met(width=1, limits=row(-7), rows=[row(1)])[0], "met")
