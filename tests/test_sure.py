import random

from shutopen.books import Book
from shutopen.errors import InvalidRow, RunsAway, Unfillable
from shutopen.fills import Fill
from shutopen.kinds import Kind
from shutopen.rests import end_of, rest_of
from shutopen.sure import freedoms, maybe, other_rest, other_row
from shutopen.vessels import Vessel
from tests.helpers import (Case, any_values, basic_rests, basic_ways_on, dot, example_book, example_vessel, frac, fraction_list, own_rank,
                           random_vessels, row, shut_columns, wide_kinds)
from tests.test_lacks import WRONG_ROWS


def resting(seed, many):
    return [vessel for vessel in random_vessels(seed, many) if end_of(vessel)[0] == "rests"]


def maybe_lot(vessel):
    """The kinds that are in some rest: in one over independent kinds, or in a mixture with which one goes on from it."""
    mixtures = basic_rests(vessel) + basic_ways_on(vessel)
    return tuple([name for at, name in enumerate(vessel.book.names) if any(mixture[at] for mixture in mixtures)])


class SureCase(Case):
    def all_raise_as_rest_of(self, *functions):
        """Holds each function, that takes a vessel alone, against rest_of."""
        book = Book(["a", "b"], Kind("x", (1, 0), cost=(-1, 1)), Kind("y", (-1, 0)), Kind("z", (0, 1)))
        unfillable = [example_vessel(("shut", (49, 1))), Vessel(book, [("shut", (1, 1)), ("shut", (-1, 1))]),
                      example_vessel().with_amounts(row(-1, 1, 0))]
        runs = [Vessel(book, [("shut", (1, 1)), ("shut", (1, 1))]), Vessel(book, [("open", (0, 1)), ("shut", (0, 1))]),
                Vessel(example_book(), [("open", (1, 1))] * 3)]
        for function in functions:
            for vessel in unfillable:
                self.assertEqual(self.raised(Unfillable, function, vessel).row, end_of(vessel)[1])
            for vessel in runs:
                caught = self.raised(RunsAway, function, vessel)
                self.assertEqual((caught.fill, caught.mixture), end_of(vessel)[1:])


class TestMaybe(SureCase):
    def check(self, vessel):
        found = maybe(vessel)
        self.assertIs(type(found), tuple)
        lot, fill, prices = found
        self.assertEqual(lot, maybe_lot(vessel))
        self.hold_best_row(vessel, fill, prices)
        self.assertEqual(fill.lot, lot)
        for kind in vessel.book.kinds:
            self.assertIs(frac(kind.cost) - dot(prices, kind.as_row()) > 0, kind.name not in lot)
        self.assertEqual(maybe(vessel=Vessel(vessel.book, vessel.states)), found)
        columns, _ = shut_columns(vessel)
        rank = own_rank([column for name, column in zip(vessel.book.names, columns) if name in lot])
        self.assertEqual(freedoms(vessel), (len(lot) - rank, len(columns[0]) - rank))
        return lot

    def test_example(self):
        self.assertEqual(self.check(example_vessel()), ("ice", "brine"))
        self.assertEqual(self.check(example_vessel(("open", (9, 4)))), ("ice", "salt", "brine"))
        self.assertEqual(self.check(example_vessel(("open", (4, 1)))), ("water", "brine", "steam"))
        self.assertEqual(self.check(example_vessel(("shut", (8, 1)))), ("ice", "brine"))
        self.assertEqual(self.check(example_vessel(("shut", (48, 1)))), ("salt", "steam"))
        self.assertEqual(freedoms(example_vessel()), (0, 0))
        self.assertEqual(freedoms(example_vessel(("open", (9, 4)))), (1, 0))
        self.assertEqual(freedoms(vessel=example_vessel(("shut", (8, 1)))), (0, 1))

    def test_random_vessels(self):
        freed = {"rests": 0, "rows": 0, "neither": 0}
        for vessel in resting(91, 500):
            self.check(vessel)
            rests, rows = freedoms(vessel)
            freed["rests"] += rests > 0
            freed["rows"] += rows > 0
            freed["neither"] += rests == rows == 0
        self.assertGreater(min(freed.values()), 20)

    def test_kinds_in_endless_rests(self):
        book = Book(["a"], Kind("x", (1,)), Kind("y", (-1,)), Kind("air", (0,)), Kind("z", (2,), cost=(1, 9)))
        self.assertEqual(self.check(Vessel(book, [("shut", (0, 1))])), ("x", "y", "air"))
        self.assertEqual(self.check(Vessel(book, [("shut", (-3, 1))])), ("x", "y", "air"))
        self.assertEqual(self.check(Vessel(book, [("open", (0, 1))])), ("x", "y", "air"))
        self.assertEqual(self.check(Vessel(book.without("y"), [("shut", (0, 1))])), ("air",))

    def test_many_kinds(self):
        book = wide_kinds(14)
        for amounts in [row(3, 2, 1), row(0, 0, 0), row(0, 5, 0)]:
            vessel = Vessel(book, [("shut", amount) for amount in amounts])
            if end_of(vessel)[0] == "rests":
                self.check(vessel)
        self.assertEqual(end_of(Vessel(book, [("shut", (0, 1))] * 3))[0], "rests")

    def test_errors(self):
        self.all_raise_as_rest_of(maybe, freedoms, other_rest, lambda vessel: other_row(vessel, None),
                                  lambda vessel: other_row(vessel, ((0, 1),) * len(vessel.states)))


class TestOthers(SureCase):
    def test_example(self):
        self.assertIsNone(other_rest(example_vessel()))
        self.assertIsNone(other_rest(example_vessel(("shut", (8, 1)))))
        found = other_rest(vessel=example_vessel(("open", (9, 4))))
        self.hold_best_row(example_vessel(("open", (9, 4))), found, row(0, 0, "9/4"))
        self.assertNotEqual(found, Fill.of(example_book(), {"ice": (1, 1), "brine": (1, 1)}))
        self.assertIsNone(other_row(example_vessel(), row(0, -2, "5/2")))
        self.assertEqual(other_row(example_vessel(), row(0, 0, "9/4")), row(0, -2, "5/2"))
        self.assertEqual(other_row(example_vessel(), row(99, 99, 99)), row(0, -2, "5/2"))

    def test_random_vessels(self):
        rnd = random.Random(92)
        words = {"rest": 0, "no rest": 0, "row": 0, "no row": 0}
        for vessel in resting(93, 400):
            rest = rest_of(vessel)
            of_rests, of_rows = freedoms(vessel)
            fill = other_rest(vessel)
            self.assertIs(fill is None, of_rests == 0)
            is_single = len(set(map(tuple, basic_rests(vessel)))) == 1 and not basic_ways_on(vessel)
            self.assertIs(of_rests == 0, is_single)
            if fill is not None:
                self.assertNotEqual(fill, rest.fill)
                self.hold_best_row(vessel, fill, rest.row)
            words["rest" if fill is not None else "no rest"] += 1
            best = other_row(vessel, rest.row)
            self.assertIs(best is None, of_rows == 0)
            rows = [rest.row, maybe(vessel)[2], fraction_list(rnd, len(vessel.states))] + ([best] if best is not None else [])
            for prices in rows:
                found = other_row(vessel, prices)
                self.assertEqual(other_row(row=prices, vessel=Vessel(vessel.book, vessel.states)), found)
                if found is not None:
                    self.assertNotEqual(found, prices)
                    self.hold_best_row(vessel, rest.fill, found)
                else:
                    self.assertEqual((prices, of_rows), (rest.row, 0))
            words["row" if best is not None else "no row"] += 1
        self.assertGreater(min(words.values()), 30)

    def test_rows_that_are_not_borne(self):
        vessel = example_vessel(("shut", (8, 1)))
        for prices in [row(9, 9, 9), row(0, 0, 100), row(-5, -5, -5), row(0, 0, 3)]:
            self.hold_best_row(vessel, rest_of(vessel).fill, other_row(vessel, prices))

    def test_wrong_rows(self):
        for value, at in [*WRONG_ROWS, *[(value, -1) for value in any_values()]]:
            self.assertEqual(self.raised(InvalidRow, other_row, example_vessel(), value).at, at)
