import unittest
from fractions import Fraction

from shutopen.books import Book, wide_book
from shutopen.errors import RunsAway, Unfillable
from shutopen.fills import Fill
from shutopen.kinds import Kind
from shutopen.rests import end_of, hollow_paper, rest_of
from shutopen.vessels import Vessel
from tests.helpers import (basic_mixtures, dot, example_book, example_vessel, frac, fracs, net_costs, pair, random_vessels, row,
                           shut_columns, summed)


def told_rest(vessel):
    """The told rest, of all fills over kinds that are independent at the shut wares; None if no fill fits."""
    fills = basic_mixtures(*shut_columns(vessel))
    if not fills:
        return None
    costs = net_costs(vessel)
    return min(fills, key=lambda fill: (sum(a * b for a, b in zip(fill, costs)), fill))


class EndCase(unittest.TestCase):
    def hold(self, vessel, end):
        """Holds the paper of an end against the sums of [8]."""
        numbers = [kind.as_row() for kind in vessel.book.kinds]
        is_shut = [word == "shut" for word, _ in vessel.states]
        self.assertIsInstance(end, tuple)
        if end[0] == "unfillable":
            _, paper = end
            self.assertEqual(len(fracs(paper)), len(is_shut))
            self.assertEqual([item for item, shut in zip(paper, is_shut) if not shut], [(0, 1)] * is_shut.count(False))
            self.assertTrue(all(dot(paper, line) <= 0 for line in numbers))
            self.assertGreater(dot(paper, vessel.amounts), 0)
            return
        _, fill, paper = end
        self.assertIs(type(fill), Fill)
        self.assertEqual(fill.book, vessel.book)
        contents = summed(numbers, fill.parts, len(is_shut))
        for shut, part, amount in zip(is_shut, contents, vessel.amounts):
            self.assertTrue(not shut or part == frac(amount))
        if end[0] == "runs":
            self.assertTrue(all(item >= 0 for item in fracs(paper)))
            contents = summed(numbers, paper, len(is_shut))
            self.assertTrue(all(part == 0 for shut, part in zip(is_shut, contents) if shut))
            self.assertLess(sum(a * b for a, b in zip(fracs(paper), net_costs(vessel))), 0)
        else:
            self.assertEqual(end[0], "rests")
            self.assertTrue(all(price == value for (word, value), price in zip(vessel.states, paper) if word == "open"))
            for kind, part in zip(vessel.book.kinds, fill.parts):
                lack = frac(kind.cost) - dot(paper, kind.as_row())
                self.assertGreaterEqual(lack, 0)
                self.assertTrue(part == (0, 1) or lack == 0)

    def check(self, vessel, word):
        end = end_of(vessel)
        self.assertEqual(end[0], word)
        self.hold(vessel, end)
        self.assertEqual(end_of(vessel=Vessel(vessel.book, list(vessel.states))), end)
        if word == "unfillable":
            with self.assertRaises(Unfillable) as caught:
                rest_of(vessel)
            self.assertEqual(caught.exception.row, end[1])
        elif word == "runs":
            with self.assertRaises(RunsAway) as caught:
                rest_of(vessel)
            self.assertEqual((caught.exception.fill, caught.exception.mixture), end[1:])
        else:
            self.assertEqual(fracs(end[1].parts), told_rest(vessel))
            rest = rest_of(vessel=vessel)
            self.assertEqual((rest.vessel, rest.fill, rest.row), (vessel, end[1], end[2]))
            self.assertEqual(frac(rest.burden), sum(a * b for a, b in zip(fracs(end[1].parts), net_costs(vessel))))
            self.assertEqual(repr(rest), f"Rest({len(end[1].lot)} kinds)")
        return end


class TestExample(EndCase):
    def told(self, heat):
        vessel = example_vessel(heat)
        self.check(vessel, "rests")
        return rest_of(vessel)

    def test_open_heat(self):
        rest = self.told(("open", (5, 2)))
        self.assertEqual(rest.vessel.net_costs(), row(0, 1, 0, -2, 16))
        self.assertEqual((rest.fill.parts, rest.row, rest.burden), (row(1, 0, 0, 1, 0), row(0, -2, "5/2"), (-2, 1)))
        self.assertEqual(repr(rest), "Rest(2 kinds)")

    def test_open_heat_at_other_prices(self):
        for low, high, amounts in [(-5, "9/4", {"ice": 4, "salt": 1}), ("9/4", 3, {"ice": 1, "brine": 1}),
                                   (3, 4, {"water": 1, "brine": 1}), (4, "30/7", {"brine": 1, "steam": 1}),
                                   ("30/7", 50, {"salt": 1, "steam": 4})]:
            expected = Fill.of(example_book(), {name: pair(amount) for name, amount in amounts.items()})
            low, high = Fraction(low), Fraction(high)
            for price in ((low + high) / 2, low + Fraction(1, 1000), high - Fraction(1, 1000)):
                self.assertEqual(self.told(("open", pair(price))).fill, expected)

    def test_open_heat_between_two_fills(self):
        # At these prices two fills rest; the told one has less of the first kind in which they differ.
        for price, amounts in [("9/4", {"ice": 1, "brine": 1}), (3, {"water": 1, "brine": 1}), (4, {"brine": 1, "steam": 1}),
                               ("30/7", {"brine": 1, "steam": 1})]:
            expected = Fill.of(example_book(), {name: pair(amount) for name, amount in amounts.items()})
            self.assertEqual(self.told(("open", pair(price))).fill, expected)

    def test_shut_heat(self):
        rest = self.told(("shut", (3, 1)))
        self.assertEqual((rest.fill.parts, rest.row, rest.burden), (row("23/8", 0, "5/8", "3/8", 0), row(0, 0, "9/4"), (27, 4)))
        self.assertEqual(repr(rest), "Rest(3 kinds)")

    def test_shut_heat_that_does_not_fit(self):
        vessel = example_vessel(("shut", (49, 1)))
        self.check(vessel, "unfillable")
        self.assertEqual([dot(row(-12, 0, 1), kind.as_row()) for kind in vessel.book.kinds], [-12, -10, 0, -28, 0])
        self.assertEqual(dot(row(-12, 0, 1), vessel.amounts), 1)
        self.check(example_vessel(("shut", (48, 1))), "rests")
        self.check(example_vessel(("shut", (-1, 10 ** 9))), "unfillable")

    def test_all_wares_open(self):
        vessel = Vessel(example_book(), [("open", (0, 1)), ("open", (0, 1)), ("open", (9, 4))])
        self.check(vessel, "rests")
        self.assertEqual(rest_of(vessel).fill, Fill.of(example_book(), {}))
        self.assertEqual(rest_of(vessel).burden, (0, 1))
        self.assertEqual(repr(rest_of(vessel)), "Rest(0 kinds)")
        self.check(vessel.with_state("heat", ("open", (5, 2))), "runs")
        self.check(vessel.with_state("water", ("open", (1, 10 ** 9))), "runs")


class TestEnds(EndCase):
    def test_random_vessels(self):
        words = {"rests": 0, "runs": 0, "unfillable": 0}
        for vessel in random_vessels(41, 900):
            end = end_of(vessel)
            self.check(vessel, end[0])
            self.assertEqual(end[0] == "unfillable", told_rest(vessel) is None)
            words[end[0]] += 1
        self.assertGreater(min(words.values()), 50)

    def test_cannot_be_filled_goes_ahead_of_running_away(self):
        book = Book(["a", "b"], Kind("x", (0, 1), cost=(-1, 1)), Kind("y", (0, -1)))
        self.check(Vessel(book, [("shut", (1, 1)), ("shut", (0, 1))]), "unfillable")
        self.check(Vessel(book, [("shut", (1, 1)), ("open", (5, 1))]), "unfillable")
        self.check(Vessel(book, [("shut", (0, 1)), ("shut", (0, 1))]), "runs")
        self.check(Vessel(book, [("shut", (0, 1)), ("open", (5, 1))]), "runs")

    def test_kinds_of_zeros(self):
        book = Book(["a"], Kind("air", (0,)), Kind("x", (2,), cost=(3, 1)))
        vessel = Vessel(book, [("shut", (3, 1))])
        self.check(vessel, "rests")
        self.assertEqual(rest_of(vessel).fill.parts, row(0, "3/2"))
        cheap = Book(["a"], Kind("air", (0,), cost=(-1, 99)), Kind("x", (2,), cost=(3, 1)))
        self.check(Vessel(cheap, [("shut", (3, 1))]), "runs")
        self.check(Vessel(cheap, [("shut", (-3, 1))]), "unfillable")
        self.check(Vessel(Book(["a"], Kind("air", (0,), cost=(1, 1))), [("shut", (0, 1))]), "rests")
        self.check(Vessel(Book(["a"], Kind("air", (0,), cost=(1, 1))), [("shut", (1, 1))]), "unfillable")

    def test_equal_kinds(self):
        book = Book(["a"], Kind("x", (1,), cost=(2, 1)), Kind("y", (1,), cost=(2, 1)), Kind("z", (1,), cost=(3, 1)))
        vessel = Vessel(book, [("shut", (5, 1))])
        self.check(vessel, "rests")
        self.assertEqual(rest_of(vessel).fill.parts, row(0, 5, 0))
        self.assertEqual(rest_of(vessel).row, row(2))

    def test_ties(self):
        book = Book(["a", "b"], Kind("x", (1, 1)), Kind("y", (1, 0)), Kind("z", (0, 1)), Kind("w", (2, 1)))
        vessel = Vessel(book, [("shut", (3, 1)), ("shut", (2, 1))])
        self.check(vessel, "rests")
        self.assertEqual(rest_of(vessel).fill.parts, row(0, 0, "1/2", "3/2"))
        vessel = Vessel(book.without("w"), [("shut", (3, 1)), ("shut", (2, 1))])
        self.check(vessel, "rests")
        self.assertEqual(rest_of(vessel).fill.parts, row(0, 3, 2))

    def test_negative_numbers_and_prices(self):
        book = Book(["a", "b"], Kind("x", (-1, 2), cost=(1, 2)), Kind("y", (3, -1), cost=(-1, 3)))
        vessel = Vessel(book, [("shut", (-2, 1)), ("open", (-1, 4))])
        self.check(vessel, "rests")
        vessel = Vessel(book, [("shut", (-2, 1)), ("open", (7, 1))])
        self.check(vessel, "runs")

    def test_no_amounts_at_all(self):
        vessel = example_vessel(("shut", (0, 1))).with_amounts(row(0, 0, 0))
        self.check(vessel, "rests")
        self.assertEqual(rest_of(vessel).fill.lot, ())

    def test_wide_books_and_large_fractions(self):
        book = wide_book(("p.a", "p.b"), [("p.x", (10 ** 6, 1), (10 ** 30, 7)), ("p.y", (1, 0), (-10 ** 25, 3)), ("q.z", (0, 5), (1, 1))])
        vessel = Vessel(book, [("shut", (10 ** 29, 3)), ("shut", (7, 10 ** 29))])
        self.check(vessel, "rests")

    def test_returned_values_may_be_passed(self):
        rest = rest_of(example_vessel(("shut", (3, 1))))
        again = example_vessel(("shut", (3, 1))).with_amounts(rest.fill.contents)
        self.assertEqual(rest_of(again).fill, rest.fill)
        self.assertEqual(rest_of(again).row, rest.row)


class TestHollow(unittest.TestCase):
    def hold(self, book):
        found = hollow_paper(book)
        self.assertEqual(hollow_paper(book=Book(list(book.wares), *book.kinds)), found)
        if found is not None:
            self.assertEqual(len(found), len(book))
            self.assertTrue(all(item >= 0 for item in fracs(found)))
            self.assertLess(dot(found, tuple([kind.cost for kind in book.kinds])), 0)
            self.assertEqual(summed([kind.as_row() for kind in book.kinds], found, len(book.wares)), [0] * len(book.wares))
        return found

    def test_books(self):
        self.assertIsNone(self.hold(example_book()))
        self.assertIsNone(self.hold(Book(["a"], Kind("x", (1,), cost=(-9, 1)))))
        self.assertIsNone(self.hold(Book(["a"], Kind("x", (0,)))))
        self.assertIsNotNone(self.hold(Book(["a"], Kind("x", (0,), cost=(-1, 99)))))
        self.assertIsNotNone(self.hold(Book(["a"], Kind("x", (2,), cost=(1, 1)), Kind("y", (-3,), cost=(-2, 1)))))
        self.assertIsNone(self.hold(Book(["a"], Kind("x", (2,), cost=(1, 1)), Kind("y", (-3,), cost=(-3, 2)))))

    def test_random_books(self):
        # A book is hollow exactly if the vessel with all wares shut at 0 runs away.
        hollow = 0
        for vessel in random_vessels(42, 400):
            found = self.hold(vessel.book)
            end = end_of(Vessel(vessel.book, [("shut", (0, 1))] * len(vessel.states)))
            self.assertEqual(end[0], "rests" if found is None else "runs")
            hollow += found is not None
            if found is not None:
                self.assertNotEqual(end_of(vessel)[0], "rests")
        self.assertGreater(hollow, 30)
