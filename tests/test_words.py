import unittest

from shutopen.words import is_fraction, is_mixture, is_name, is_number, is_row
from tests.helpers import any_values


class TestWords(unittest.TestCase):
    def check(self, function, right, wrong):
        for value in right:
            self.assertIs(function(value), True, value)
        for value in wrong:
            self.assertIs(function(value), False, value)

    def test_names_have_one_to_six_lowercase_letters(self):
        letters = "abcdefghijklmnopqrstuvwxyz"
        self.check(is_name, list(letters) + ["ab", "water", "abcdef", "zzzzzz", "kind", "cost"],
                   ["", "abcdefg", "A", "aB", "Water", "a1", "1", "a b", " a", "a ", "a.b", "a_b", "a-b", "a\n", "\n",
                    "a/b", "`", "{", "~", "\u00e4", "\u00df", ["a"], ("a",), {"a": 1}, None, True, 3, b"a"])

    def test_numbers_are_integers_but_not_true_and_false(self):
        self.check(is_number, [0, 1, -1, 999999999, -999999999, 10 ** 40, -10 ** 5000],
                   [True, False, None, "1", "", 1.0, (1, 1), [1], (1,), {1: 1}, {}])

    def test_fractions(self):
        right = [(0, 1), (1, 1), (-1, 1), (3, 1), (1, 2), (-1, 2), (2, 3), (-7, 15), (10 ** 30, 10 ** 30 - 1),
                 (-10 ** 30, 10 ** 30 + 1), (2 ** 5000, 3 ** 5000)]
        self.check(is_fraction, right,
                   [(0, 2), (0, 0), (0, -1), (1, 0), (1, -1), (1, -2), (-1, -2), (2, 2), (2, 4), (-2, 4), (4, 2), (6, 9),
                    (3, 3), (2 ** 100, 2 ** 90), 0, 1, "1", "1/2", None, True, (), (1,), (1, 1, 1), [1, 1], [1, 2],
                    ((1, 1), 1), (1, (1, 1)), (1, None), (None, 1), ("1", 1), (1, "1"), (1.0, 1), (1, 1.0), {1: 1}])

    def test_true_beside_one(self):
        self.check(is_fraction, [(1, 1), (0, 1)], [(True, 1), (1, True), (True, True), (False, 1), (3, True)])
        self.assertIs(is_row(((1, 1), (True, 1)), 2), False)
        self.assertIs(is_row(((True, 1),), 1), False)
        self.assertIs(is_row(((1, True),), 1), False)
        self.assertIs(is_mixture(((1, True),), 1), False)
        self.assertIs(is_mixture(((True, 1),), 1), False)

    def test_rows(self):
        for value, many in [((), 0), (((1, 1),), 1), (((-1, 2),), 1), (((0, 1), (-3, 1), (2, 7)), 3),
                            (((1, 1),) * 30, 30), (((10 ** 40, 7),), 1)]:
            self.assertIs(is_row(value, many), True, value)

    def test_rows_of_the_wrong_length(self):
        value = ((1, 1), (2, 1))
        for many in (0, 1, 3, 4):
            self.assertIs(is_row(value, many), False)
            self.assertIs(is_mixture(value, many), False)
        self.assertIs(is_row((), 1), False)
        self.assertIs(is_mixture((), 1), False)

    def test_wrong_rows(self):
        for value in [[(1, 1), (2, 1)], ([1, 1], (2, 1)), ((1, 1), [2, 1]), (1, 2), ((1, 1), 2), ((1, 1), None),
                      ((2, 4), (1, 1)), ((1, 1), (2, 2)), ((1, 1), (1, -1)), ((1, 1), (1, 0)), ("a", "b"), "ab",
                      {"a": 1, "b": 2}, {(1, 1): 1, (2, 1): 2}]:
            self.assertIs(is_row(value, 2), False, value)
            self.assertIs(is_mixture(value, 2), False, value)

    def test_mixtures_are_rows_without_negative_items(self):
        for value in [(), ((0, 1),), ((0, 1), (0, 1)), ((1, 2), (0, 1), (10 ** 40, 1))]:
            self.assertIs(is_mixture(value, len(value)), True)
        for value in [((-1, 1),), ((1, 1), (-1, 10 ** 9)), ((-1, 1), (1, 1)), ((0, 1), (0, 1), (-1, 2))]:
            self.assertIs(is_mixture(value, len(value)), False)
            self.assertIs(is_row(value, len(value)), True)

    def test_any_value_is_answered(self):
        for value in any_values():
            for function in (is_name, is_number, is_fraction):
                self.assertIn(function(value), (True, False))
            for many in range(3):
                self.assertIn(is_row(value, many), (True, False))
                self.assertIn(is_mixture(value, many), (True, False))
            self.assertIs(is_fraction(value), False)
            self.assertIs(is_number(value), type(value) is int)
            self.assertIs(is_name(value), isinstance(value, str) and value in ("open", "word"))
            self.assertIs(is_row(value, 1), False)
