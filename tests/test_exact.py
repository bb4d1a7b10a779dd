import random
import unittest
from fractions import Fraction
from math import gcd

from shutopen.errors import ByZero
from shutopen.exact import (ONE, ZERO, added, compared, fraction, fraction_text, minus, over, plus, product, read_fraction,
                            scaled, sign, times, whole_row)
from tests.helpers import any_values, dot, frac, fraction_list, fracs, pair, row

GRID = [pair(Fraction(n, d)) for n in range(-6, 7) for d in range(1, 6)]
GREAT = [pair(Fraction(10 ** 30 - 1, 17)), pair(Fraction(-10 ** 29, 3)), pair(Fraction(1, 10 ** 30 - 1)),
         pair(Fraction(-2 ** 90, 3 ** 50)), pair(Fraction(7 ** 400, 2 ** 900))]


class TestFractions(unittest.TestCase):
    def test_constants(self):
        self.assertEqual(ZERO, (0, 1))
        self.assertEqual(ONE, (1, 1))

    def test_fraction(self):
        for n in range(-12, 13):
            for d in [*range(-12, 0), *range(1, 13)]:
                self.assertEqual(frac(fraction(n, d)), Fraction(n, d))

    def test_fraction_of_plain_numbers(self):
        self.assertEqual([fraction(0), fraction(5), fraction(-5), fraction(n=3), fraction(3, d=6), fraction(d=4, n=6)],
                         [(0, 1), (5, 1), (-5, 1), (3, 1), (1, 2), (3, 2)])

    def test_fraction_with_zero_and_with_signs(self):
        self.assertEqual([fraction(0, 7), fraction(0, -7), fraction(6, -4), fraction(-6, -4), fraction(-6, 4)],
                         [(0, 1), (0, 1), (-3, 2), (3, 2), (-3, 2)])

    def test_fraction_by_zero(self):
        for n in (0, 1, -1, 10 ** 40):
            with self.assertRaises(ByZero):
                fraction(n, 0)

    def test_large_fractions(self):
        self.assertEqual(fraction(6 * 10 ** 2000, -4 * 10 ** 2000), (-3, 2))
        self.assertEqual(fraction(2 ** 9000, 2 ** 8999), (2, 1))

    def test_the_four_operations(self):
        for one in GRID + GREAT:
            for other in GRID + GREAT:
                a, b = frac(one), frac(other)
                self.assertEqual(frac(plus(one, other)), a + b)
                self.assertEqual(frac(minus(one, other)), a - b)
                self.assertEqual(frac(times(one, other)), a * b)
                if b != 0:
                    self.assertEqual(frac(over(one, other)), a / b)

    def test_over_zero(self):
        for one in ((0, 1), (3, 2), (-1, 1)):
            with self.assertRaises(ByZero):
                over(one, (0, 1))

    def test_sign_and_compared(self):
        for one in GRID + GREAT:
            a = frac(one)
            self.assertIs(sign(one), (a > 0) - (a < 0))
            for other in GRID + GREAT:
                b = frac(other)
                self.assertEqual(compared(one, other), (a > b) - (a < b))

    def test_arguments_by_name(self):
        self.assertEqual(plus(one=(1, 2), other=(1, 3)), (5, 6))
        self.assertEqual(minus(other=(1, 3), one=(1, 2)), (1, 6))
        self.assertEqual(times(one=(1, 2), other=(1, 3)), (1, 6))
        self.assertEqual(over(other=(1, 3), one=(1, 2)), (3, 2))
        self.assertEqual(compared(other=(1, 3), one=(1, 2)), 1)
        self.assertEqual(sign(value=(-1, 3)), -1)
        self.assertEqual(product(one=((1, 2),), other=((1, 3),)), (1, 6))
        self.assertEqual(scaled(row=((1, 2),), value=(4, 1)), ((2, 1),))
        self.assertEqual(added(one=((1, 2),), other=((1, 3),)), ((5, 6),))
        self.assertEqual(whole_row(row=((1, 2),)), (1,))
        self.assertEqual(fraction_text(value=(1, 2)), "1/2")
        self.assertEqual(read_fraction(text="1/2"), (1, 2))


class TestRows(unittest.TestCase):
    def test_product(self):
        rnd = random.Random(1)
        self.assertEqual(product((), ()), (0, 1))
        self.assertEqual(product(row(1, 2, 3), row(4, -5, "1/3")), (-5, 1))
        for _ in range(200):
            many = rnd.randint(0, 5)
            one, other = fraction_list(rnd, many), fraction_list(rnd, many)
            self.assertEqual(frac(product(one, other)), dot(one, other))

    def test_scaled_and_added(self):
        rnd = random.Random(2)
        self.assertEqual(scaled((), (3, 1)), ())
        self.assertEqual(added((), ()), ())
        for _ in range(200):
            many = rnd.randint(0, 5)
            one, other, value = fraction_list(rnd, many), fraction_list(rnd, many), fraction_list(rnd, 1)[0]
            self.assertEqual(fracs(scaled(one, value)), [a * frac(value) for a in fracs(one)])
            self.assertEqual(fracs(added(one, other)), [a + b for a, b in zip(fracs(one), fracs(other))])

    def test_whole_row(self):
        self.assertEqual(whole_row(()), ())
        self.assertEqual(whole_row(row(0, 0, 0)), (0, 0, 0))
        self.assertEqual(whole_row(row("1/2", "-1/3", 0)), (3, -2, 0))
        self.assertEqual(whole_row(row(4, -6, 8)), (2, -3, 4))
        self.assertEqual(whole_row(row("-4/3", "-2/3")), (-2, -1))
        self.assertEqual(whole_row(row(-5)), (-1,))
        self.assertEqual(whole_row(row("2/9", "4/3", "10/27")), (3, 18, 5))
        self.assertEqual(whole_row(((10 ** 40, 3), (10 ** 39, 7))), (70, 3))

    def test_whole_rows_are_positive_multiples(self):
        rnd = random.Random(3)
        for _ in range(300):
            given = fraction_list(rnd, rnd.randint(1, 5), parts=12)
            found = whole_row(given)
            self.assertIsInstance(found, tuple)
            self.assertTrue(all(type(number) is int for number in found))
            if any(found):
                at = next(at for at, number in enumerate(found) if number != 0)
                factor = found[at] / frac(given[at])
                self.assertGreater(factor, 0)
                self.assertEqual([a * factor for a in fracs(given)], list(found))
                self.assertEqual(gcd(*found), 1)
            else:
                self.assertEqual(set(fracs(given)), {0})


class TestTexts(unittest.TestCase):
    def test_texts(self):
        for value, text in [((4, 1), "4"), ((0, 1), "0"), ((-2, 5), "-2/5"), ((-2, 1), "-2"), ((7, 10), "7/10"),
                            ((10, 1), "10"), ((1, 10), "1/10"), ((100, 7), "100/7")]:
            self.assertEqual(fraction_text(value), text)
            self.assertEqual(read_fraction(text), value)

    def test_there_and_back(self):
        for value in GRID + GREAT:
            self.assertEqual(read_fraction(fraction_text(value)), value)

    def test_texts_that_bend_the_form(self):
        for text in ["", " ", "-", "/", "-/", "+1", "--1", "-0", "00", "01", "-01", "007", "1/", "/2", "1//2", "1/2/3", "1/-2",
                     "-1/-2", "1/+2", "1/1", "-3/1", "0/1", "0/2", "-0/2", "1/0", "0/0", "2/4", "-2/4", "6/9", "4/2", "1/02",
                     "01/2", "1 /2", "1/ 2", " 1/2", "1/2 ", "1 ", " 1", "\n1", "1\n", "1/2\n", "1.0", "1e3", "1_000", "0x1",
                     "a", "1a", "a1", "one", "1/a", "1,2", "1:2", "(1, 2)", "- 1", "1-", "-", "1/2-", "\u0661", "\u00b2",
                     "1/\u0662", "--", "-1/", "-/2", "1/00", "1/0", "10/5", "5/10"]:
            self.assertIsNone(read_fraction(text), repr(text))

    def test_values_that_are_no_texts(self):
        for value in any_values() + [1, (1, 2), ["1"], b"1"]:
            self.assertIsNone(read_fraction(value))

    def test_a_thousand_digits_and_one_more(self):
        digits = "9" * 1000
        number = 10 ** 1000 - 1
        self.assertEqual(read_fraction(digits), (number, 1))
        self.assertEqual(read_fraction("-" + digits), (-number, 1))
        self.assertEqual(read_fraction("1/" + digits), (1, number))
        self.assertEqual(read_fraction("-1" + "0" * 999 + "/" + digits), (-10 ** 999, number))
        self.assertEqual(read_fraction(digits + "/1" + "0" * 999), (number, 10 ** 999))
        for text in ["9" * 1001, "-" + "9" * 1001, "1/" + "9" * 1001, "9" * 1001 + "/2", "1" + "0" * 1000, "9" * 5900]:
            self.assertIsNone(read_fraction(text))

    def test_texts_of_very_large_fractions(self):
        self.assertEqual(fraction_text((10 ** 63, 1)), "1" + "0" * 63)
        self.assertEqual(fraction_text((10 ** 64, 1)), "1" + "0" * 64)
        self.assertEqual(fraction_text((10 ** 64 + 5, 1)), "1" + "0" * 63 + "5")
        self.assertEqual(fraction_text((-10 ** 64 + 1, 1)), "-" + "9" * 64)
        self.assertEqual(fraction_text((-10 ** 6000, 10 ** 5000 + 1)), "-1" + "0" * 6000 + "/1" + "0" * 4999 + "1")
