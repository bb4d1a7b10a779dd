import random
from fractions import Fraction

from shutopen.books import Book
from shutopen.errors import InvalidRow, RunsAway, Unfillable
from shutopen.kinds import Kind
from shutopen.rates import first_cost, first_gain, small_step
from shutopen.rests import end_of, rest_of
from shutopen.vessels import Vessel
from tests.helpers import any_values, dot, example_vessel, frac, fraction_list, fracs, pair, row
from tests.test_sure import SureCase, resting

HEAT = row(0, 0, 1)


def with_more(vessel, direction, share):
    return vessel.with_amounts(row(*[a + Fraction(share) * b for a, b in zip(fracs(vessel.amounts), fracs(direction))]))


class TestRates(SureCase):
    def hold_paper(self, vessel, direction, paper):
        """Holds a row against the words of [17], for a direction that cannot be gone."""
        self.assertTrue(all(item == (0, 1) for (word, _), item in zip(vessel.states, paper) if word == "open"))
        self.assertEqual(len(fracs(paper)), len(vessel.states))
        self.assertTrue(all(dot(paper, kind.as_row()) <= 0 for kind in vessel.book.kinds))
        self.assertEqual(dot(paper, vessel.amounts), 0)
        self.assertGreater(dot(paper, direction), 0)

    def hold(self, vessel, direction, found):
        """Holds a first cost against the least burdens of vessels with amounts a little changed."""
        self.assertIs(type(found), tuple)
        step = small_step(vessel, direction)
        if found[0] == "none":
            self.assertEqual(len(found), 2)
            self.hold_paper(vessel, direction, found[1])
            self.assertIsNone(step)
            for share in (1, Fraction(1, 10 ** 6)):
                self.assertEqual(end_of(with_more(vessel, direction, share))[0], "unfillable")
            return
        word, value, prices = found
        rest = rest_of(vessel)
        self.assertEqual((word, frac(value)), ("rate", dot(direction, prices)))
        self.hold_best_row(vessel, rest.fill, prices)
        self.assertGreater(frac(step), 0)
        for share in (frac(step), frac(step) / 2, frac(step) / 7, 0):
            burden = rest_of(with_more(vessel, direction, share)).burden
            self.assertEqual(frac(burden), frac(rest.burden) + share * frac(value))

    def check(self, vessel, direction):
        cost = first_cost(vessel, direction)
        gain = first_gain(vessel, direction)
        self.hold(vessel, direction, cost)
        about = row(*[-item for item in fracs(direction)])
        if gain[0] == "none":
            self.hold(vessel, about, gain)
        else:
            word, value, prices = gain
            self.hold(vessel, about, (word, pair(-frac(value)), prices))
        if cost[0] == gain[0] == "rate":
            self.assertLessEqual(frac(gain[1]), frac(cost[1]))
        again = Vessel(vessel.book, vessel.states)
        self.assertEqual((first_cost(direction=direction, vessel=again), first_gain(direction=direction, vessel=again)), (cost, gain))
        self.assertEqual(small_step(direction=direction, vessel=again), small_step(vessel, direction))
        return cost, gain

    def test_example(self):
        vessel = example_vessel(("shut", (8, 1)))
        cost, gain = self.check(vessel, HEAT)
        self.assertEqual((cost, gain), (("rate", (3, 1), row(0, -6, 3)), ("rate", (9, 4), row(0, 0, "9/4"))))
        cost, gain = self.check(example_vessel(("shut", (3, 1))), HEAT)
        self.assertEqual((cost[1], gain[1]), ((9, 4), (9, 4)))
        cost, gain = self.check(example_vessel(), row(1, 0, 0))
        self.assertEqual((cost[1], gain[1]), ((0, 1), (0, 1)))

    def test_directions_that_cannot_be_gone(self):
        vessel = example_vessel(("shut", (48, 1)))
        cost, gain = self.check(vessel, HEAT)
        self.assertEqual((cost[0], gain[0]), ("none", "rate"))
        self.assertEqual(gain[1], (30, 7))
        cost, gain = self.check(vessel, row(-1, 0, 0))
        self.assertEqual((cost[0], gain[0]), ("none", "rate"))
        empty = vessel.with_amounts(row(0, 0, 0))
        self.assertEqual([part[0] for part in self.check(empty, row(0, 1, 0))], ["rate", "none"])
        self.assertEqual([part[0] for part in self.check(empty, row(-1, 1, 0))], ["none", "none"])

    def test_zero_direction(self):
        vessel = example_vessel()
        cost, gain = self.check(vessel, row(0, 0, 0))
        self.assertEqual((cost[:2], gain[:2]), (("rate", (0, 1)), ("rate", (0, 1))))

    def test_random_vessels(self):
        rnd = random.Random(96)
        words = {"rate": 0, "none": 0}
        differ = 0
        for vessel in resting(97, 350):
            for _ in range(2):
                direction = row(*[frac(item) if word == "shut" else 0 for (word, _), item
                                  in zip(vessel.states, fraction_list(rnd, len(vessel.states), -2, 3))])
                cost, gain = self.check(vessel, direction)
                words[cost[0]] += 1
                words[gain[0]] += 1
                differ += cost[0] == gain[0] == "rate" and cost[1] != gain[1]
        self.assertGreater(min(*words.values(), differ), 10)

    def test_more_open_wares(self):
        # With heat open at the price of one best row, first costs get smaller and first gains greater, or stay.
        shut = example_vessel(("shut", (8, 1)))
        for price in (Fraction(9, 4), Fraction(5, 2), Fraction(3)):
            opened = example_vessel(("open", pair(price)))
            for direction in (row(1, 0, 0), row(0, 1, 0), row(-1, 2, 0)):
                self.assertLessEqual(frac(first_cost(opened, direction)[1]), frac(first_cost(shut, direction)[1]))
                self.assertGreaterEqual(frac(first_gain(opened, direction)[1]), frac(first_gain(shut, direction)[1]))

    def test_wrong_directions(self):
        vessel = example_vessel()
        for function in (first_cost, first_gain, small_step):
            for value in [*any_values(), (), row(1, 1), row(1, 1, 0, 0), list(row(1, 1, 0))]:
                self.assertEqual(self.raised(InvalidRow, function, vessel, value).at, -1)
            for value, at in [(row(1, 1, 1), 2), (row(0, 0, "-1/9"), 2), ((None, (1, 1), (1, 1)), 0), (((1, 1), 3, (1, 1)), 1),
                              (((1, 1), (True, 1), (0, 1)), 1), (((1, 1), (2, 2), (0, 1)), 1), (((1, 1), (1, 1), (0, 2)), 2),
                              (((1, 1), (1, 1), None), 2)]:
                self.assertEqual(self.raised(InvalidRow, function, vessel, value).at, at)
            two = Vessel(vessel.book, [("open", (-5, 1)), ("shut", (1, 1)), ("open", (2, 1))])
            self.assertEqual(self.raised(InvalidRow, function, two, row(1, 1, 1)).at, 0)
            self.assertEqual(self.raised(InvalidRow, function, two, ((1, 1), None, (1, 1))).at, 0)
            self.assertEqual(self.raised(InvalidRow, function, two, ((0, 1), None, (1, 1))).at, 1)

    def test_vessels_that_do_not_rest_go_ahead(self):
        self.all_raise_as_rest_of(*[lambda vessel, f=function: f(vessel, None) for function in (first_cost, first_gain, small_step)])
        book = Book(["a"], Kind("x", (1,), cost=(-1, 1)), Kind("y", (-1,)))
        self.raised(RunsAway, small_step, Vessel(book, [("shut", (1, 1))]), row(1))
        self.raised(Unfillable, first_gain, Vessel(book.without("y"), [("shut", (-1, 1))]), row(1))
