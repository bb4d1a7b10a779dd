import unittest

from shutopen.books import Book
from shutopen.ends import is_hollow_by, is_rest, is_runaway, is_unfillable
from shutopen.fills import Fill
from shutopen.kinds import Kind
from shutopen.vessels import Vessel
from tests.helpers import any_values, example_book, example_vessel, row


class TestIsRest(unittest.TestCase):
    def setUp(self):
        self.vessel = example_vessel()
        self.fill = Fill.of(example_book(), {"ice": (1, 1), "brine": (1, 1)})
        self.row = row(0, -2, "5/2")

    def test_right_papers(self):
        self.assertIs(is_rest(self.vessel, self.fill, self.row), True)
        self.assertIs(is_rest(row=self.row, fill=self.fill, vessel=self.vessel), True)
        empty = self.vessel.with_amounts(row(0, 0, 0))
        self.assertIs(is_rest(empty, Fill.of(example_book(), {}), row(0, -3, "5/2")), True)

    def test_a_fill_that_does_not_fit(self):
        for amounts in [{}, {"ice": (1, 1)}, {"ice": (2, 1), "brine": (1, 1)}, {"ice": (1, 1), "brine": (1, 2)}]:
            self.assertIs(is_rest(self.vessel, Fill.of(example_book(), amounts), self.row), False)
        dearer = Book(self.vessel.book.wares, *self.vessel.book.kinds[:4], Kind("steam", (1, 0, 12), cost=(47, 1)))
        self.assertIs(is_rest(self.vessel, Fill(dearer, self.fill.parts), self.row), False)

    def test_a_row_that_is_not_borne(self):
        # It touches the fill and suits the vessel, but salt lacks less than nothing.
        vessel = example_vessel(("open", (2, 1)))
        self.assertIs(is_rest(vessel, self.fill, row(0, 2, 2)), False)

    def test_a_row_that_does_not_suit(self):
        self.assertIs(is_rest(example_vessel(("open", (2, 1))), self.fill, self.row), False)
        self.assertIs(is_rest(self.vessel, self.fill, row(0, 0, "9/4")), False)

    def test_a_row_that_does_not_touch(self):
        self.assertIs(is_rest(self.vessel, self.fill, row(0, -3, "5/2")), False)
        self.assertIs(is_rest(self.vessel, self.fill, row(-1, 1, "5/2")), False)
        self.assertIs(is_rest(self.vessel, Fill.of(example_book(), {"salt": (1, 1), "ice": (4, 1)}), self.row), False)

    def test_other_values(self):
        for value in any_values():
            self.assertIs(is_rest(self.vessel, value, self.row), False)
            self.assertIs(is_rest(self.vessel, self.fill, value), False)
            self.assertIs(is_rest(self.vessel, value, value), False)
        self.assertIs(is_rest(self.vessel, self.fill.parts, self.row), False)
        self.assertIs(is_rest(self.vessel, self.fill, list(self.row)), False)
        self.assertIs(is_rest(self.vessel, self.fill, self.row[:2]), False)


class TestIsUnfillable(unittest.TestCase):
    def setUp(self):
        self.vessel = example_vessel(("shut", (49, 1)))

    def test_right_papers(self):
        self.assertIs(is_unfillable(self.vessel, row(-12, 0, 1)), True)
        self.assertIs(is_unfillable(row=row(-24, 0, 2), vessel=self.vessel), True)
        self.assertIs(is_unfillable(example_vessel().with_amounts(row(-1, 0, 0)), row(-1, 0, 0)), True)

    def test_an_item_at_an_open_ware(self):
        vessel = example_vessel().with_amounts(row(-1, 0, 0))
        self.assertIs(is_unfillable(vessel, row(-1, 0, "-1/9")), False)
        self.assertIs(is_unfillable(vessel, row(-1, "-1/9", 0)), True)

    def test_a_positive_product_with_a_kind(self):
        self.assertIs(is_unfillable(self.vessel, row(0, 0, 1)), False)
        self.assertIs(is_unfillable(self.vessel, row("-119/10", 0, 1)), False)
        self.assertIs(is_unfillable(self.vessel, row(-12, "1/9", 1)), False)

    def test_a_product_with_the_amounts_that_is_not_positive(self):
        self.assertIs(is_unfillable(example_vessel(("shut", (48, 1))), row(-12, 0, 1)), False)
        self.assertIs(is_unfillable(self.vessel, row("-49/4", 0, 1)), False)
        self.assertIs(is_unfillable(self.vessel, row(0, 0, 0)), False)

    def test_other_values(self):
        for value in any_values() + [list(row(-12, 0, 1)), row(-12, 0), row(-12, 0, 1, 0), ((-12, 1), (0, 1), 1)]:
            self.assertIs(is_unfillable(self.vessel, value), False)


class TestIsRunaway(unittest.TestCase):
    def setUp(self):
        self.book = Book(["a", "b"], Kind("x", (1, 1)), Kind("y", (-1, 2), cost=(1, 1)), Kind("z", (0, 3), cost=(2, 1)))
        self.vessel = Vessel(self.book, [("shut", (2, 1)), ("open", (1, 2))])
        self.fill = Fill.of(self.book, {"x": (2, 1)})

    def test_right_papers(self):
        self.assertEqual(self.vessel.net_costs(), row("-1/2", 0, "1/2"))
        self.assertIs(is_runaway(self.vessel, self.fill, row(1, 1, 0)), True)
        self.assertIs(is_runaway(mixture=row(3, 3, "1/2"), fill=self.fill, vessel=self.vessel), True)
        self.assertIs(is_runaway(self.vessel, Fill.of(self.book, {"x": (3, 1), "y": (1, 1), "z": (1, 1)}), row(1, 1, 0)), True)

    def test_a_fill_that_does_not_fit(self):
        self.assertIs(is_runaway(self.vessel, Fill.of(self.book, {"x": (1, 1)}), row(1, 1, 0)), False)
        self.assertIs(is_runaway(self.vessel, Fill.of(self.book.without("z"), {"x": (2, 1)}), row(1, 1, 0)), False)

    def test_contents_at_a_shut_ware(self):
        self.assertIs(is_runaway(self.vessel, self.fill, row(2, 1, 0)), False)
        both = Vessel(self.book, [("shut", (2, 1)), ("shut", (2, 1))])
        self.assertIs(is_runaway(both, self.fill, row(1, 1, 0)), False)
        book = Book(["a", "b"], Kind("x", (1, 0), cost=(-1, 1)), Kind("y", (0, 1), cost=(-1, 1)), Kind("z", (0, 0), cost=(-1, 1)))
        both, empty = Vessel(book, [("shut", (0, 1)), ("shut", (0, 1))]), Fill.of(book, {})
        self.assertEqual([is_runaway(both, empty, paper) for paper in (row(1, 0, 0), row(0, 1, 0), row(0, 0, 1))],
                         [False, False, True])

    def test_without_shut_wares(self):
        free = Vessel(self.book, [("open", (1, 1)), ("open", (1, 1))])
        self.assertIs(is_runaway(free, Fill.of(self.book, {}), row(1, 0, 0)), True)
        self.assertIs(is_runaway(free, self.fill, row(0, 0, 1)), True)
        self.assertIs(is_runaway(free.with_state("b", ("open", (2, 3))), self.fill, row(0, 0, 1)), False)

    def test_a_burden_that_is_not_negative(self):
        self.assertIs(is_runaway(self.vessel, self.fill, row(1, 1, 1)), False)
        self.assertIs(is_runaway(self.vessel, self.fill, row(1, 1, 2)), False)
        self.assertIs(is_runaway(self.vessel, self.fill, row(0, 0, 0)), False)
        dearer = self.vessel.with_state("b", ("open", (1, 3)))
        self.assertIs(is_runaway(dearer, self.fill, row(1, 1, 0)), False)

    def test_a_negative_item(self):
        self.assertIs(is_runaway(self.vessel, self.fill, row(1, 1, -1)), False)
        self.assertIs(is_runaway(self.vessel, self.fill, row(-1, -1, -9)), False)

    def test_other_values(self):
        for value in any_values() + [list(row(1, 1, 0)), row(1, 1), row(1, 1, 0, 0), ((1, 1), 1, (0, 1))]:
            self.assertIs(is_runaway(self.vessel, self.fill, value), False)
            self.assertIs(is_runaway(self.vessel, value, row(1, 1, 0)), False)
            self.assertIs(is_runaway(self.vessel, value, value), False)


class TestIsHollowBy(unittest.TestCase):
    def setUp(self):
        self.book = Book(["a", "b"], Kind("x", (1, -1)), Kind("y", (-2, 2), cost=(-1, 1)), Kind("z", (0, 3), cost=(-9, 1)))

    def test_right_papers(self):
        self.assertIs(is_hollow_by(self.book, row(2, 1, 0)), True)
        self.assertIs(is_hollow_by(mixture=row(1, "1/2", 0), book=self.book), True)

    def test_contents_of_any_ware(self):
        self.assertIs(is_hollow_by(self.book, row(2, 1, 1)), False)
        self.assertIs(is_hollow_by(self.book, row(1, 1, 0)), False)
        self.assertIs(is_hollow_by(self.book, row(0, 0, 1)), False)

    def test_a_cost_that_is_not_negative(self):
        self.assertIs(is_hollow_by(self.book, row(0, 0, 0)), False)
        dearer = Book(["a", "b"], Kind("x", (1, -1), cost=(1, 2)), *self.book.kinds[1:])
        self.assertIs(is_hollow_by(dearer, row(2, 1, 0)), False)
        dearer = Book(["a", "b"], Kind("x", (1, -1), cost=(49, 99)), *self.book.kinds[1:])
        self.assertIs(is_hollow_by(dearer, row(2, 1, 0)), True)

    def test_a_negative_item(self):
        book = Book(["a"], Kind("x", (1,)), Kind("y", (1,), cost=(1, 1)))
        self.assertIs(is_hollow_by(book, row(1, -1)), False)

    def test_other_values(self):
        for value in any_values() + [list(row(2, 1, 0)), row(2, 1), row(2, 1, 0, 0), ((2, 1), 1, (0, 1))]:
            self.assertIs(is_hollow_by(self.book, value), False)
