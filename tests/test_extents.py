from fractions import Fraction

from shutopen.books import Book
from shutopen.errors import RunsAway, Unfillable, UnknownKind, UnknownWare
from shutopen.extents import Extent, extent, held
from shutopen.fills import Fill
from shutopen.kinds import Kind
from shutopen.rests import end_of, rest_of
from shutopen.vessels import Vessel
from tests.helpers import (any_values, basic_rests, basic_ways_on, dot, example_book, example_vessel, frac, fracs, net_costs, row,
                           shut_columns, summed)
from tests.test_sure import SureCase, resting


class TestExtent(SureCase):
    def hold_paper(self, vessel, at, paper, side):
        """Holds the paper of an end against the sums of [16]; side is 1 for the least end and -1 for the greatest one."""
        prices, factor = paper
        self.assertEqual(len(fracs(prices)), len(vessel.states))
        self.assertTrue(all(item == (0, 1) for (word, _), item in zip(vessel.states, prices) if word == "open"))
        for k, (kind, net) in enumerate(zip(vessel.book.kinds, net_costs(vessel))):
            total = dot(prices, kind.as_row()) + frac(factor) * net
            self.assertLessEqual(side * total, side * (1 if k == at else 0))
        return dot(prices, vessel.amounts) + frac(factor) * frac(rest_of(vessel).burden)

    def check(self, vessel, name):
        found = extent(vessel, name)
        self.assertIs(type(found), Extent)
        at = vessel.book.place(name)
        amounts = [fill[at] for fill in basic_rests(vessel)]
        self.assertEqual(frac(found.least), min(amounts))
        self.assertEqual(found.low[name], found.least)
        self.hold_best_row(vessel, found.low, rest_of(vessel).row)
        self.assertEqual(self.hold_paper(vessel, at, found.floor, 1), frac(found.least))
        if any(mixture[at] for mixture in basic_ways_on(vessel)):
            self.assertEqual((found.greatest, found.high, found.ceiling), (None, None, None))
            self.assertTrue(all(item >= 0 for item in fracs(found.endless)))
            self.assertGreater(frac(found.endless[at]), 0)
            self.assertEqual(sum(a * b for a, b in zip(fracs(found.endless), net_costs(vessel))), 0)
            columns, _ = shut_columns(vessel)
            self.assertEqual(summed(columns, found.endless, len(columns[0])), [0] * len(columns[0]))
        else:
            self.assertIsNone(found.endless)
            self.assertEqual(frac(found.greatest), max(amounts))
            self.assertEqual(found.high[name], found.greatest)
            self.hold_best_row(vessel, found.high, rest_of(vessel).row)
            self.assertEqual(self.hold_paper(vessel, at, found.ceiling, -1), frac(found.greatest))
        again = extent(name=name, vessel=Vessel(vessel.book, vessel.states))
        for word in ("least", "greatest", "low", "high", "floor", "ceiling", "endless"):
            self.assertEqual(getattr(again, word), getattr(found, word))
        return found

    def test_example(self):
        vessel = example_vessel(("open", (9, 4)))
        for name, text in [("ice", "Extent(1 to 4)"), ("water", "Extent(0 to 0)"), ("salt", "Extent(0 to 1)"), ("brine", "Extent(0 to 1)")]:
            self.assertEqual(repr(self.check(vessel, name)), text)
        self.assertEqual(repr(self.check(example_vessel(("shut", (3, 1))), "ice")), "Extent(23/8 to 23/8)")

    def test_random_vessels(self):
        ends = {"endless": 0, "one": 0, "more": 0}
        for vessel in resting(94, 250):
            for name in vessel.book.names:
                found = self.check(vessel, name)
                ends["endless" if found.greatest is None else "one" if found.least == found.greatest else "more"] += 1
        self.assertGreater(min(ends.values()), 5)

    def test_endless(self):
        book = Book(["a"], Kind("x", (2,)), Kind("y", (-1,)), Kind("air", (0,)), Kind("z", (2,), cost=(1, 9)))
        vessel = Vessel(book, [("shut", (3, 1))])
        self.assertEqual([repr(self.check(vessel, name)) for name in book.names],
                         ["Extent(3/2 to endless)", "Extent(0 to endless)", "Extent(0 to endless)", "Extent(0 to 0)"])
        self.check(Vessel(book, [("open", (0, 1))]), "x")

    def test_unknown_names_ahead_of_vessels_that_do_not_rest(self):
        book = Book(["a"], Kind("x", (1,), cost=(-1, 1)), Kind("y", (-1,)))
        runs = Vessel(book, [("shut", (2, 1))])
        for vessel in [example_vessel(), example_vessel(("shut", (49, 1))), runs]:
            for value in [*any_values(), "heat", "Ice", "fog"]:
                self.assertIs(self.raised(UnknownKind, extent, vessel, value).name, value)
        self.assertEqual(self.raised(Unfillable, extent, example_vessel(("shut", (49, 1))), "ice").row,
                         end_of(example_vessel(("shut", (49, 1))))[1])
        caught = self.raised(RunsAway, extent, runs, "x")
        self.assertEqual((caught.fill, caught.mixture), end_of(runs)[1:])


class TestHeld(SureCase):
    def check(self, vessel, ware):
        found = held(vessel, ware)
        at = vessel.book.ware_index(ware)
        numbers = [kind.numbers[at] for kind in vessel.book.kinds]
        contents = [sum(a * b for a, b in zip(numbers, fill)) for fill in basic_rests(vessel)]
        on = [sum(a * b for a, b in zip(numbers, mixture)) for mixture in basic_ways_on(vessel)]
        low = None if any(item < 0 for item in on) else min(contents)
        high = None if any(item > 0 for item in on) else max(contents)
        self.assertEqual(tuple(None if end is None else frac(end) for end in found), (low, high))
        self.assertIs(type(found), tuple)
        self.assertEqual(held(ware=ware, vessel=Vessel(vessel.book, vessel.states)), found)
        return found

    def test_example(self):
        vessel = example_vessel(("open", (9, 4)))
        self.assertEqual([self.check(vessel, ware) for ware in vessel.book.wares], [((4, 1), (4, 1)), ((1, 1), (1, 1)), ((0, 1), (8, 1))])
        self.assertEqual(self.check(example_vessel(), "heat"), ((8, 1), (8, 1)))

    def test_random_vessels(self):
        ends = {0: 0, 1: 0, 2: 0}
        for vessel in resting(95, 500):
            for ware in vessel.book.wares:
                low, high = self.check(vessel, ware)
                ends[(low is not None) + (high is not None)] += 1
                if vessel.state(ware)[0] == "shut":
                    self.assertEqual((low, high), (vessel.state(ware)[1],) * 2)
        self.assertGreater(min(ends[1], ends[2]), 5)

    def test_without_ends(self):
        book = Book(["a"], Kind("x", (2,), cost=(2, 1)), Kind("y", (-1,), cost=(-1, 1)))
        self.assertEqual(self.check(Vessel(book, [("open", (1, 1))]), "a"), (None, None))
        self.assertEqual(self.check(Vessel(book.without("y"), [("open", (1, 1))]), "a"), ((0, 1), None))
        self.assertEqual(self.check(Vessel(book.without("x"), [("open", (1, 1))]), "a"), (None, (0, 1)))

    def test_errors(self):
        for vessel in [example_vessel(), example_vessel(("shut", (49, 1)))]:
            for value in [*any_values(), "ice", "Heat", 0]:
                self.assertIs(self.raised(UnknownWare, held, vessel, value).name, value)
        self.all_raise_as_rest_of(lambda vessel: held(vessel, vessel.book.wares[0]), lambda vessel: extent(vessel, vessel.book.names[0]))

    def test_ends_are_met(self):
        vessel = example_vessel(("open", (9, 4)))
        for amounts in [{"ice": (1, 1), "brine": (1, 1)}, {"ice": (4, 1), "salt": (1, 1)}]:
            fill = Fill.of(example_book(), amounts)
            self.hold_best_row(vessel, fill, row(0, 0, "9/4"))
            self.assertIn(fill.contents[2], held(vessel, "heat"))
        self.assertEqual(Fraction(*extent(vessel, "ice").greatest), 4)
