from itertools import permutations

from shutopen.books import Book
from shutopen.errors import InvalidOrder, NotFilled, RunsAway
from shutopen.fills import Fill
from shutopen.kinds import Kind
from shutopen.reactions import reaction_cost
from shutopen.rests import end_of, rest_of
from shutopen.vessels import Vessel
from shutopen.ways import Way, way
from tests.helpers import any_values, basic_mixtures, example_book, example_vessel, frac, fracs, pair, random_vessels, row, shut_columns
from tests.test_splitting import SplitCase as BaseCase

STEAM = {"salt": (1, 1), "steam": (4, 1)}


class TestWay(BaseCase):
    def check(self, vessel, fill):
        """Holds a way, and its stops in all orders of a few steps, against the sums."""
        found = way(vessel, fill)
        self.assertIs(type(found), Way)
        self.assertEqual((found.start, found.goal), (fill, rest_of(vessel).fill))
        self.assertIs(type(found.steps), tuple)
        change = row(*[b - a for a, b in zip(fracs(fill.parts), fracs(found.goal.parts))])
        self.hold(vessel, change, list(found.steps))
        for _, reaction in found.steps:
            self.assertLessEqual(frac(reaction_cost(vessel, reaction)), 0)
        many = len(found.steps)
        self.assertEqual((len(found), repr(found)), (many, f"Way({many} steps)"))
        self.assertEqual(found.stops(), found.stops(order=list(range(many))))
        self.assertEqual(found.stops(order=None), found.stops())
        for order in list(permutations(range(many)))[:24]:
            stops = found.stops(order=list(order))
            self.assertIs(type(stops), list)
            self.assertEqual((len(stops), stops[0], stops[-1]), (many + 1, fill, found.goal))
            self.assertEqual(found.stops(order=order), stops)
            for at, ahead, behind in zip(order, stops, stops[1:]):
                weight, reaction = found.steps[at]
                self.assertTrue(vessel.fits(behind))
                self.assertEqual(fracs(behind.parts), [part + frac(weight) * number for part, number in zip(fracs(ahead.parts), reaction.parts)])
                self.assertLessEqual(frac(vessel.burden_of(behind)), frac(vessel.burden_of(ahead)))
        self.assertEqual(way(fill=fill, vessel=Vessel(vessel.book, vessel.states)).steps, found.steps)
        return found

    def test_example(self):
        vessel = example_vessel()
        found = self.check(vessel, Fill.of(example_book(), STEAM))
        self.assertEqual(len(found), 2)
        self.assertEqual(found.goal, Fill.of(example_book(), {"ice": (1, 1), "brine": (1, 1)}))
        self.check(vessel, Fill.of(example_book(), {"ice": (1, 1), "water": (2, 1), "steam": (1, 2), "salt": (5, 6), "brine": (1, 6)}))

    def test_from_the_told_rest(self):
        rest = rest_of(example_vessel()).fill
        found = self.check(example_vessel(), rest)
        self.assertEqual((found.steps, found.stops(), len(found), repr(found)), ((), [rest], 0, "Way(0 steps)"))
        self.assertEqual(found.stops(order=[]), [rest])
        self.raised(InvalidOrder, found.stops, order=[0])

    def test_from_another_rest(self):
        vessel = example_vessel(("open", (9, 4)))
        found = self.check(vessel, Fill.of(example_book(), {"ice": (4, 1), "salt": (1, 1)}))
        self.assertEqual([reaction_cost(vessel, reaction) for _, reaction in found.steps], [(0, 1)])

    def test_random_fills(self):
        several = 0
        for vessel in random_vessels(71, 250):
            if end_of(vessel)[0] == "rests":
                fills = basic_mixtures(*shut_columns(vessel))[-3:]
                mean = [sum(parts) / len(fills) for parts in zip(*fills)]
                for parts in [fills[0], mean]:
                    several += len(self.check(vessel, Fill(vessel.book, [pair(part) for part in parts]))) > 1
        self.assertGreater(several, 30)

    def test_vessels_that_run_away(self):
        book = Book(["a"], Kind("x", (1,), cost=(-1, 1)), Kind("y", (-1,)))
        vessel = Vessel(book, [("shut", (2, 1))])
        caught = self.raised(RunsAway, way, vessel, Fill(book, row(2, 0)))
        self.assertEqual((caught.fill, caught.mixture), end_of(vessel)[1:])
        self.raised(NotFilled, way, vessel, Fill(book, row(1, 0)))
        self.raised(NotFilled, way, vessel, None)

    def test_values_that_are_no_fills_that_fit(self):
        vessel = example_vessel()
        book = example_book()
        for value in [*any_values(), Fill.of(book, {}), Fill.of(book, {"ice": (4, 1)}), row(1, 0, 0, 1, 0), rest_of(vessel),
                      Fill.of(book.moved(row(1, 0, 0)), STEAM)]:
            self.raised(NotFilled, way, vessel, value)
        empty = vessel.with_amounts(row(-1, 0, 0))
        self.raised(NotFilled, way, empty, Fill.of(book, STEAM))

    def test_wrong_orders(self):
        found = way(example_vessel(), Fill.of(example_book(), STEAM))
        self.assertEqual(len(found), 2)
        for value in [*[value for value in any_values() if value is not None], [], [0], [1], [0, 0], [1, 1], [0, 1, 1], [0, 1, 2], [0, 2],
                      [-1, 0], [1, -2], [True, 0], [0, True], [False, 1], [1, False], (False, True), [0, None], [None, 1], [0, "1"],
                      ["0", "1"], {0: 0, 1: 1}, "01", [[0], [1]], [(0, 1)], ((0,), (1,)), 2, [0, 1.0]]:
            self.raised(InvalidOrder, found.stops, order=value)
        self.assertEqual(len(found.stops(order=(1, 0))), 3)

    def test_changed_lists(self):
        found = way(example_vessel(), Fill.of(example_book(), STEAM))
        order = [1, 0]
        stops = found.stops(order=order)
        expected = list(stops)
        stops.clear()
        self.assertEqual((order, found.stops(order=[1, 0])), ([1, 0], expected))
        with self.assertRaises(TypeError):
            found.stops([1, 0])
