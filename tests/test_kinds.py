import unittest

from shutopen.errors import InvalidCost, InvalidName, InvalidNumbers
from shutopen.kinds import Kind
from tests.helpers import any_values, example_book


class TestKind(unittest.TestCase):
    def refused(self, error, *values, **more):
        with self.assertRaises(error) as caught:
            Kind(*values, **more)
        self.assertIs(type(caught.exception), error)
        return caught.exception

    def test_attributes(self):
        kind = Kind("brine", [3, 1, -8], cost=(18, 5))
        self.assertEqual((kind.name, kind.numbers, kind.cost), ("brine", (3, 1, -8), (18, 5)))
        self.assertIs(type(kind.numbers), tuple)
        kind = Kind("ice", (1,))
        self.assertEqual((kind.name, kind.numbers, kind.cost), ("ice", (1,), (0, 1)))

    def test_by_name(self):
        kind = Kind(cost=(1, 2), numbers=(0, 0), name="a")
        self.assertEqual((kind.name, kind.numbers, kind.cost), ("a", (0, 0), (1, 2)))
        with self.assertRaises(TypeError):
            Kind("a", (0,), (1, 2))

    def test_names(self):
        for name in ["", "abcdefg", "Ice", "ice1", "a b", "a.b", None, True, 7, ("a",), ["a"], {}]:
            self.assertEqual(self.refused(InvalidName, name, (1,)).name, name)
        self.assertEqual(Kind("abcdef", (1,)).name, "abcdef")

    def test_numbers_as_a_whole(self):
        for numbers in [(), [], (1,) * 7, [1] * 7, None, True, 5, "1", "123", {}, {1: 1}, {0: 0, 1: 1}]:
            self.assertEqual(self.refused(InvalidNumbers, "a", numbers).at, -1)
        self.assertEqual(Kind("a", [1] * 6).numbers, (1,) * 6)

    def test_each_number(self):
        for item in [100, -100, 10 ** 9, True, False, None, "1", (1, 1), 1.0, [1], {}]:
            for at in range(3):
                numbers = [7, 7, 7]
                numbers[at] = item
                self.assertEqual(self.refused(InvalidNumbers, "a", numbers).at, at)
                self.assertEqual(self.refused(InvalidNumbers, "a", tuple(numbers)).at, at)
        self.assertEqual(self.refused(InvalidNumbers, "a", (1, None, 100)).at, 1)
        self.assertEqual(Kind("a", (99, -99, 0)).numbers, (99, -99, 0))

    def test_costs(self):
        for cost in [(10000, 1), (-10000, 1), (1, 100), (10001, 2), (9999, 100), (2, 4), (1, 0), (1, -1), (0, 2), (True, 1),
                     (1, True), [1, 1], 1, 0, None, "1", (), (1,), ((1, 1),), (1, 1, 1)]:
            self.refused(InvalidCost, "a", (1,), cost=cost)
        for cost in [(9999, 1), (-9999, 1), (9998, 99), (-1, 99), (0, 1)]:
            self.assertEqual(Kind("a", (1,), cost=cost).cost, cost)

    def test_any_values(self):
        for value in any_values():
            if value not in ("open", "word"):
                self.assertIs(self.refused(InvalidName, value, value, cost=value).name, value)
            self.refused(InvalidNumbers, "a", value, cost=value)
            self.refused(InvalidCost, "a", (1,), cost=value)

    def test_order_of_the_errors(self):
        self.refused(InvalidName, "A", (), cost=None)
        self.refused(InvalidName, "A", (1,), cost=None)
        self.refused(InvalidName, "A", (100,))
        self.refused(InvalidNumbers, "a", (), cost=None)
        self.refused(InvalidNumbers, "a", (100,), cost=None)

    def test_lists_are_copied(self):
        numbers = [1, 2]
        kind = Kind("a", numbers)
        numbers.append(3)
        numbers[0] = 9
        self.assertEqual(kind.numbers, (1, 2))

    def test_as_row(self):
        self.assertEqual(Kind("a", (3, 0, -8)).as_row(), ((3, 1), (0, 1), (-8, 1)))
        self.assertEqual(Kind("a", (99,), cost=(1, 2)).as_row(), ((99, 1),))

    def test_text(self):
        self.assertEqual(Kind("brine", (3, 1, 8), cost=(18, 1)).text(), "kind brine 3 1 8 cost 18")
        self.assertEqual(Kind("a", (-99,), cost=(-2, 5)).text(), "kind a -99 cost -2/5")
        self.assertEqual(Kind("a", (0, 0)).text(), "kind a 0 0 cost 0")

    def test_equality(self):
        kind = Kind("a", (1, 2), cost=(1, 2))
        self.assertTrue(kind == Kind("a", [1, 2], cost=(1, 2)))
        self.assertFalse(kind != Kind("a", [1, 2], cost=(1, 2)))
        for other in [Kind("b", (1, 2), cost=(1, 2)), Kind("a", (1, 3), cost=(1, 2)), Kind("a", (1, 2), cost=(1, 3)),
                      Kind("a", (1, 2)), Kind("a", (1, 2, 0), cost=(1, 2)), "a", None, ("a", (1, 2), (1, 2)), example_book()]:
            self.assertFalse(kind == other)
            self.assertTrue(kind != other)

    def test_repr(self):
        self.assertEqual(repr(Kind("ice", (1, 0))), "Kind(ice)")
        self.assertEqual(repr(Kind("brine", (1, 0), cost=(3, 1))), "Kind(brine)")
