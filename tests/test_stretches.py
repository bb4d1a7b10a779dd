import random
from fractions import Fraction

from shutopen.books import Book, wide_book
from shutopen.errors import InvalidWindow, NotOpen, TooMany, Unfillable, UnknownWare
from shutopen.kinds import Kind
from shutopen.lacks import touches
from shutopen.rests import end_of, rest_of
from shutopen.stretches import PriceStretch, cooled, stretches
from shutopen.vessels import Vessel
from tests.helpers import (Case, all_shut, any_values, dot, example_book, example_vessel, frac, fracs, pair, random_vessels, row,
                           shut_columns, summed, wide_kinds)

WINDOWS = [value for value in any_values()] + [
    (), ((0, 1),), row(0, 1, 2), list(row(0, 1)), row(1, 1), row(2, 1), row("1/3", "1/3"), row("1/2", "1/3"), (0, 1), ((0, 1), 1),
    (None, (1, 1)), ((0, 1), (2, 2)), ((False, 1), (1, 1)), ((0, 1), (1, 0)), row(0, 1, 0, 1)]


def at_price(vessel, ware, price):
    return vessel.with_state(ware, ("open", pair(price)))


def open_vessels(seed, many):
    """Vessels, each with one of its open wares, that can be filled."""
    for vessel in random_vessels(seed, many):
        if vessel.open_wares() and end_of(vessel)[0] != "unfillable":
            yield vessel, vessel.open_wares()[seed % len(vessel.open_wares())]


class StretchCase(Case):
    def is_rest_at(self, vessel, ware, price, fill):
        """Whether a fill is a rest at a price: it fits, and a best row touches it."""
        there = at_price(vessel, ware, price)
        if end_of(there)[0] != "rests" or not there.fits(fill):
            return False
        return touches(there.book, rest_of(there).row, fill)

    def check(self, vessel, ware, window):
        """Holds price stretches against the rests at prices in each of them, on its ends and beside."""
        found = stretches(vessel, ware=ware, window=window)
        self.assertIs(type(found), list)
        low, high = fracs(window)
        at = vessel.book.ware_index(ware)
        for part in found:
            self.assertIs(type(part), PriceStretch)
            self.assertEqual(part.fill.contents[at], part.amount)
            start, end = frac(part.low), frac(part.high)
            self.assertLess(start, end)
            for price in (start, end, (start + end) / 2, (9 * start + end) / 10):
                self.assertTrue(self.is_rest_at(vessel, ware, price, part.fill))
            for price in (start - Fraction(1, 10 ** 6), end + Fraction(1, 10 ** 6)):
                if low <= price <= high:
                    self.assertFalse(self.is_rest_at(vessel, ware, price, part.fill))
        for one, other in zip(found, found[1:]):
            self.assertEqual(one.high, other.low)
            self.assertLess(frac(one.amount), frac(other.amount))
        ends = [frac(found[0].low), frac(found[-1].high)] if found else []
        samples = [low + (high - low) * Fraction(share, 12) for share in range(13)]
        resting = [price for price in samples if end_of(at_price(vessel, ware, price))[0] == "rests"]
        if found:
            self.assertTrue(low <= ends[0] and ends[1] <= high)
            self.assertTrue(all((ends[0] <= price <= ends[1]) is (price in resting) for price in samples))
            for end, side in zip(ends, (-1, 1)):
                beside = end + side * Fraction(1, 10 ** 6)
                if low <= beside <= high:
                    self.assertEqual(end_of(at_price(vessel, ware, beside))[0], "runs")
        else:
            self.assertLessEqual(len(resting), 1)
        self.check_cooled(vessel, ware, window, found)
        return found

    def check_cooled(self, vessel, ware, window, found):
        changes = cooled(vessel, ware=ware, window=window)
        self.assertIs(type(changes), list)
        self.assertEqual([price for price, _ in changes], [part.high for part in found[:-1]][::-1])
        columns, _ = shut_columns(vessel)
        for (price, change), lower, upper in zip(changes, found[-2::-1], found[::-1]):
            self.assertEqual(fracs(change), [a - b for a, b in zip(fracs(lower.fill.parts), fracs(upper.fill.parts))])
            self.assertEqual(summed(columns, change, len(columns[0])), [0] * len(columns[0]))
            self.assertEqual(dot(change, at_price(vessel, ware, frac(price)).net_costs()), 0)


class TestStretches(StretchCase):
    def test_example(self):
        found = self.check(example_vessel(), "heat", row(0, 5))
        self.assertEqual([(part.low, part.high, part.amount) for part in found],
                         [((0, 1), (9, 4), (0, 1)), ((9, 4), (3, 1), (8, 1)), ((3, 1), (4, 1), (10, 1)), ((4, 1), (30, 7), (20, 1)),
                          ((30, 7), (5, 1), (48, 1))])
        self.assertEqual([repr(part) for part in found[:2]], ["PriceStretch(0 to 9/4)", "PriceStretch(9/4 to 3)"])
        self.assertEqual([part.fill.lot for part in found], [("ice", "salt"), ("ice", "brine"), ("water", "brine"), ("brine", "steam"),
                                                            ("salt", "steam")])

    def test_windows_within_and_on_ends(self):
        vessel = example_vessel()
        for window, many in [(row("5/2", "14/5"), 1), (row("9/4", 3), 1), (row(2, "9/4"), 1), (row("9/4", 4), 2), (row("30/7", 9), 1),
                             (row(-10 ** 9, 10 ** 9), 5), (row("899999999/400000000", "9/4"), 1)]:
            found = self.check(vessel, "heat", window)
            self.assertEqual((len(found), found[0].low, found[-1].high), (many, *window))

    def test_own_price_means_nothing(self):
        one = stretches(example_vessel(), ware="heat", window=row(0, 5))
        other = stretches(example_vessel(("open", (-77, 3))), ware="heat", window=row(0, 5))
        self.assertEqual([(a.low, a.high, a.amount, a.fill) for a in one], [(a.low, a.high, a.amount, a.fill) for a in other])

    def test_cooled_example(self):
        found = cooled(example_vessel(), ware="heat", window=row(0, 5))
        self.assertEqual([price for price, _ in found], [(30, 7), (4, 1), (3, 1), (9, 4)])
        self.assertEqual(found[0][1], row(0, 0, -1, 1, -3))
        self.assertEqual(cooled(example_vessel(), ware="heat", window=row(0, 1)), [])

    def test_rests_at_one_price_or_at_none(self):
        book = Book(["a"], Kind("x", (2,), cost=(2, 1)), Kind("y", (-1,), cost=(-1, 1)))
        vessel = Vessel(book, [("open", (0, 1))])
        for window in [row(0, 1), row(1, 2), row(0, 2), row(2, 3), row(-5, "99/100")]:
            self.assertEqual(self.check(vessel, "a", window), [])
        only_x = Vessel(book.without("y"), [("open", (0, 1))])
        self.assertEqual(self.check(only_x, "a", row(1, 2)), [])
        self.assertEqual([(part.low, part.high, part.amount) for part in self.check(only_x, "a", row(-3, 2))], [((-3, 1), (1, 1), (0, 1))])
        only_y = Vessel(book.without("x"), [("open", (0, 1))])
        self.assertEqual([(part.low, part.high, part.amount) for part in self.check(only_y, "a", row(-3, 2))], [((1, 1), (2, 1), (0, 1))])

    def test_run_away_whatever_the_price(self):
        book = Book(["a", "b"], Kind("x", (1, 0), cost=(-1, 1)), Kind("y", (-1, 0)), Kind("z", (0, 1)))
        self.assertEqual(self.check(Vessel(book, [("shut", (1, 1)), ("open", (0, 1))]), "b", row(-5, 5)), [])

    def test_random_vessels(self):
        rnd = random.Random(111)
        sizes = {}
        for vessel, ware in open_vessels(112, 700):
            low = Fraction(rnd.randint(-6, 4), rnd.randint(1, 3))
            found = self.check(vessel, ware, row(low, low + Fraction(rnd.randint(1, 24), 4)))
            sizes[min(len(found), 3)] = sizes.get(min(len(found), 3), 0) + 1
        self.assertGreater(min(sizes[size] for size in range(3)), 20)

    def test_fills_that_rest_at_one_price_alone(self):
        # At the price 1 all three kinds can rest, and the told rest is the third one, which rests at no other price.
        book = Book(["stuff", "heat"], Kind("low", (1, 0)), Kind("high", (1, 2), cost=(2, 1)), Kind("middle", (1, 1), cost=(1, 1)))
        vessel = Vessel(book, [("shut", (3, 1)), ("open", (1, 1))])
        self.assertEqual(rest_of(vessel).fill.lot, ("middle",))
        for window, lots in [(row(1, 3), [("high",)]), (row(-2, 1), [("low",)]), (row(0, 2), [("low",), ("high",)])]:
            self.assertEqual([part.fill.lot for part in self.check(vessel, "heat", window)], lots)

    def test_many_stretches(self):
        kinds = [Kind(name, (1, at), cost=(at * at, 1)) for at, name in enumerate("abcdefghij")]
        vessel = Vessel(Book(["stuff", "heat"], *kinds), [("shut", (7, 3)), ("open", (0, 1))])
        found = self.check(vessel, "heat", row(-4, 40))
        self.assertEqual([part.fill.lot for part in found], [(name,) for name in "abcdefghij"])
        self.assertEqual([part.high for part in found], [(2 * at + 1, 1) for at in range(9)] + [(40, 1)])

    def test_twelve_kinds(self):
        book = wide_kinds(12)
        self.check(Vessel(book, [("shut", (3, 1)), ("shut", (2, 1)), ("open", (0, 1))]), "c", row(-3, 3))

    def test_equal_calls(self):
        vessel = example_vessel(("open", (9, 4)))
        one, other = [stretches(ware="heat", window=row(0, 5), vessel=given) for given in (vessel, Vessel(vessel.book, vessel.states))]
        self.assertEqual([part.fill for part in one], [part.fill for part in other])
        self.assertEqual(cooled(window=row(0, 5), ware="heat", vessel=vessel), cooled(vessel, ware="heat", window=row(0, 5)))


class TestErrors(StretchCase):
    def both(self, error, vessel, ware, window):
        caught = self.raised(error, cooled, vessel, ware=ware, window=window)
        self.assertEqual(vars(self.raised(error, stretches, vessel, ware=ware, window=window)).keys(), vars(caught).keys())
        return caught

    def test_each_error(self):
        vessel = example_vessel()
        for value in [*any_values(), "ice", "Heat", 2]:
            self.assertIs(self.both(UnknownWare, vessel, value, row(0, 1)).name, value)
        self.assertEqual(self.both(NotOpen, vessel, "salt", row(0, 1)).ware, "salt")
        for value in WINDOWS:
            self.both(InvalidWindow, vessel, "heat", value)
        unfillable = vessel.with_amounts(row(-1, 1, 0))
        caught = self.both(Unfillable, unfillable, "heat", row(0, 1))
        self.assertEqual(caught.row, end_of(unfillable)[1])
        self.assertEqual(self.both(TooMany, all_shut(wide_kinds(13)), "a", row(0, 1)).most, 12)

    def test_order_of_errors(self):
        wide = all_shut(wide_kinds(13)).with_amounts(row(-1, 0, 0))
        self.both(TooMany, wide, None, None)
        self.both(TooMany, wide.with_state("a", ("open", (0, 1))), "a", row(0, 1))
        unfillable = example_vessel().with_amounts(row(-1, 1, 0))
        self.both(UnknownWare, unfillable, "fog", None)
        self.both(NotOpen, unfillable, "water", None)
        self.both(InvalidWindow, unfillable, "heat", row(1, 0))
        self.both(Unfillable, unfillable, "heat", row(0, 1))

    def test_unfillable_goes_ahead_of_running_away(self):
        book = wide_book(("a", "b"), [("x", (0, 1), (-1, 1)), ("y", (0, 0), (-1, 1))])
        self.both(Unfillable, Vessel(book, [("shut", (1, 1)), ("open", (0, 1))]), "b", row(0, 1))
        self.assertEqual(stretches(Vessel(book, [("shut", (0, 1)), ("open", (0, 1))]), ware="b", window=row(0, 1)), [])

    def test_keyword_only(self):
        with self.assertRaises(TypeError):
            stretches(example_vessel(), "heat", row(0, 1))
        with self.assertRaises(TypeError):
            cooled(example_vessel(), "heat", row(0, 1))
        self.assertEqual(example_book(), example_vessel().book)
