import random
import unittest

from shutopen.errors import InvalidRow
from shutopen.fills import Fill
from shutopen.lacks import is_borne, lacks, suits, touched, touches
from shutopen.vessels import Vessel
from tests.helpers import any_values, dot, example_book, example_vessel, frac, fraction_list, fracs, row

WRONG_ROWS = [(None, -1), (True, -1), ("abc", -1), ((), -1), (row(1, 1), -1), (row(1, 1, 1, 1), -1), (list(row(1, 1, 1)), -1),
              ({}, -1), ((None, (1, 1), None), 0), (((1, 1), (2, 4), (1, 1)), 1), (((1, 1), (1, 1), (True, 1)), 2),
              (((1, 1), (1, 1), [1, 1]), 2), ((1, 1, 1), 0)]


class TestLacks(unittest.TestCase):
    def setUp(self):
        self.book = example_book()

    def test_lacks(self):
        self.assertEqual(lacks(self.book, row(0, -2, "5/2")), row(0, 1, 2, 0, 16))
        self.assertEqual(lacks(self.book, row(0, 0, "9/4")), row(0, "3/2", 0, 0, 19))
        self.assertEqual(lacks(row=row(1, 1, 1), book=self.book), row(-1, 3, -1, 6, 33))
        rnd = random.Random(31)
        for _ in range(50):
            prices = fraction_list(rnd, 3)
            self.assertEqual(fracs(lacks(self.book, prices)),
                             [frac(kind.cost) - dot(prices, kind.as_row()) for kind in self.book.kinds])

    def test_touched(self):
        self.assertEqual(touched(self.book, row(0, 0, "9/4")), ("ice", "salt", "brine"))
        self.assertEqual(touched(self.book, row(0, -2, "5/2")), ("ice", "brine"))
        self.assertEqual(touched(row=row(-1, -1, 0), book=self.book), ())
        self.assertEqual(touched(self.book, row(5, 7, 0)), ())
        self.assertEqual(touched(self.book, row(0, 7, 3)), ("ice", "water"))

    def test_wrong_rows(self):
        fill = Fill.of(self.book, {})
        for value, at in WRONG_ROWS:
            for call in (lambda: lacks(self.book, value), lambda: touched(self.book, value),
                         lambda: touches(self.book, value, fill)):
                with self.assertRaises(InvalidRow) as caught:
                    call()
                self.assertEqual(caught.exception.at, at)

    def test_is_borne(self):
        for value in [row(0, -2, "5/2"), row(0, 0, "9/4"), row(-1, -1, 0), row(0, 0, 0)]:
            self.assertIs(is_borne(self.book, value), True)
        for value in [row("1/9", 0, 0), row(0, "1/9", 0), row(0, 0, "7/3"), row(0, -2, 3), row(0, -7, 4)]:
            self.assertIs(is_borne(self.book, value), False)
        self.assertIs(is_borne(value=row(0, 0, 0), book=self.book), True)

    def test_suits(self):
        vessel = example_vessel()
        for value in [row(0, -2, "5/2"), row(100, 100, "5/2")]:
            self.assertIs(suits(vessel, value), True)
        for value in [row(0, -2, 2), row("5/2", 0, 0), row(4, 1, 0)]:
            self.assertIs(suits(vessel, value), False)
        self.assertIs(suits(value=row(0, 0, 0), vessel=example_vessel(("shut", (1, 1)))), True)
        both = Vessel(self.book, [("open", (1, 1)), ("shut", (0, 1)), ("open", (2, 1))])
        self.assertEqual([suits(both, row(1, 9, 2)), suits(both, row(1, 0, 3)), suits(both, row(0, 0, 2))], [True, False, False])

    def test_other_values_are_neither_borne_nor_suit(self):
        for value in any_values() + [value for value, _ in WRONG_ROWS]:
            self.assertIs(is_borne(self.book, value), False)
            self.assertIs(suits(example_vessel(), value), False)
            self.assertIs(suits(example_vessel(("shut", (1, 1))), value), False)

    def test_touches(self):
        for prices, names, expected in [
                (row(0, 0, "9/4"), ["ice"], True), (row(0, 0, "9/4"), ["ice", "salt", "brine"], True),
                (row(0, 0, "9/4"), [], True), (row(0, 0, "9/4"), ["ice", "water"], False), (row(0, 0, "9/4"), ["steam"], False),
                (row(0, -2, "5/2"), ["ice", "brine"], True), (row(0, -2, "5/2"), ["salt", "brine"], False),
                (row(5, 7, 0), [], True), (row(1, 7, "5/2"), ["water"], True)]:
            fill = Fill.of(self.book, {name: (1, 3) for name in names})
            self.assertIs(touches(self.book, prices, fill), expected)
            self.assertIs(touches(fill=fill, row=prices, book=self.book), expected)
