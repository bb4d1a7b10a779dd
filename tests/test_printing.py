import inspect
import unittest

from shutopen.books import Book, wide_book
from shutopen.kinds import Kind
from shutopen.printing import rest_lines
from shutopen.rests import rest_of
from shutopen.vessels import Vessel
from shutopen.works import Works
from shutopen.workrests import works_rest
from tests.helpers import example_book, example_vessel, row


class TestRestLines(unittest.TestCase):
    def test_example(self):
        self.assertEqual(list(rest_lines(rest_of(example_vessel()))), [
            "ice                               1              0",
            "water                             0              1",
            "salt                              0              0",
            "brine                             1             -2",
            "steam                             0             16",
            "burden                            -             -2"])
        self.assertEqual(list(rest_lines(rest=rest_of(example_vessel(("shut", (3, 1)))))), [
            "ice                            23/8              0",
            "water                             0              6",
            "salt                            5/8              0",
            "brine                           3/8             18",
            "steam                             0             46",
            "burden                            -           27/4"])

    def test_columns(self):
        for rest in (rest_of(example_vessel()), rest_of(example_vessel(("open", (31, 7))))):
            for line, kind in zip(rest_lines(rest), [*rest.vessel.book.names, "burden"]):
                self.assertEqual(len(line), 50)
                self.assertEqual((line[:20].rstrip(), line[20], line[35]), (kind, " ", " "))
                self.assertNotIn("\n", line)

    def test_longer_texts_are_not_cut(self):
        name = "averylongnameofakind.with.dots"
        book = wide_book(("a",), [(name, (1,), (10 ** 15, 7)), ("x" * 20, (2,), (10 ** 20, 1)), ("x" * 21, (3,), (10 ** 20, 1))])
        rest = rest_of(Vessel(book, [("shut", (10 ** 14, 3))]))
        self.assertEqual(list(rest_lines(rest)), [
            f"{name} 100000000000000/3 1000000000000000/7",
            f"{'x' * 20}              0 100000000000000000000",
            f"{'x' * 21}              0 100000000000000000000",
            "burden                            - 100000000000000000000000000000/21"])
        edge = wide_book(("a",), [("k", (1,), (10 ** 13, 1)), ("l", (-1,), (-10 ** 12, 1))])
        self.assertEqual(list(rest_lines(rest_of(Vessel(edge, [("shut", (10 ** 13, 1))])))), [
            "k                    10000000000000 10000000000000",
            "l                                 0 -1000000000000",
            "burden                            - 100000000000000000000000000"])

    def test_works(self):
        works = Works(example_book(), [("a", row(0, 1, 0)), ("b", row(4, 0, 0))], doors=[("heat", "a", (5, 2)), ("heat", "b", (5, 2))],
                      valves=[("water", "b", "a", (1, 4))])
        lines = list(rest_lines(works_rest(works).joint))
        self.assertEqual(len(lines), 12)
        self.assertEqual(lines[-2:], ["b.a.water                         3            1/4", "burden                            -           -5/4"])

    def test_generator_and_one_kind(self):
        self.assertTrue(inspect.isgeneratorfunction(rest_lines))
        rest = rest_of(Vessel(Book(["a"], Kind("x", (2,), cost=(1, 3))), [("shut", (1, 1))]))
        self.assertEqual(list(rest_lines(rest)), ["x                               1/2            1/3", "burden                            -            1/6"])
        self.assertEqual(list(rest_lines(rest)), list(rest_lines(rest)))
