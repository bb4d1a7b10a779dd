import unittest

from shutopen.books import Book, wide_book
from shutopen.errors import InvalidFill, InvalidFraction, Negative, UnknownKind
from shutopen.fills import Fill
from shutopen.kinds import Kind
from tests.helpers import any_values, example_book, row


class TestFill(unittest.TestCase):
    def setUp(self):
        self.book = example_book()
        self.fill = Fill(self.book, row(1, 0, 0, "1/2", 0))

    def raised(self, error, function, *values, **more):
        with self.assertRaises(error) as caught:
            function(*values, **more)
        self.assertIs(type(caught.exception), error)
        return caught.exception

    def test_attributes(self):
        fill = self.fill
        self.assertIs(fill.book, self.book)
        self.assertEqual(fill.parts, row(1, 0, 0, "1/2", 0))
        self.assertEqual(fill.lot, ("ice", "brine"))
        self.assertEqual(fill.contents, row("5/2", "1/2", 4))
        self.assertEqual(fill.cost, (9, 1))

    def test_attributes_of_the_empty_fill(self):
        fill = Fill(self.book, row(0, 0, 0, 0, 0))
        self.assertEqual((fill.lot, fill.contents, fill.cost), ((), row(0, 0, 0), (0, 1)))

    def test_attributes_with_negative_numbers_and_costs(self):
        book = Book(["a", "b"], Kind("x", (-2, 3), cost=(-1, 2)), Kind("y", (2, 0), cost=(5, 3)))
        fill = Fill(book, row("1/3", "2/3"))
        self.assertEqual((fill.lot, fill.contents, fill.cost), (("x", "y"), row("2/3", 1), (17, 18)))

    def test_lists_and_names(self):
        parts = list(row(1, 0, 0, "1/2", 0))
        fill = Fill(parts=parts, book=self.book)
        self.assertEqual(fill, self.fill)
        parts[0] = (7, 1)
        parts.pop()
        self.assertEqual(fill, self.fill)
        self.assertIs(type(fill.parts), tuple)

    def test_values_that_are_no_lists_of_the_right_length(self):
        for value in [None, True, 3, "abcde", {}, {"ice": (1, 1)}, (), [], row(1, 1, 1, 1), row(1, 1, 1, 1, 1, 1), self.fill,
                      [None] * 4, {0: 1, 1: 1, 2: 1, 3: 1, 4: 1}]:
            self.assertEqual(self.raised(InvalidFill, Fill, self.book, value).at, -1)

    def test_wrong_items(self):
        for item in [(-1, 1), (-1, 10 ** 9), (2, 4), (1, 0), (True, 1), (1, True), [1, 1], 1, 0, None, "1", ((1, 1),)]:
            for at in (0, 2, 4):
                parts = list(row(1, 1, 1, 1, 1))
                parts[at] = item
                self.assertEqual(self.raised(InvalidFill, Fill, self.book, parts).at, at)
                self.assertEqual(self.raised(InvalidFill, Fill, self.book, tuple(parts)).at, at)
        self.assertEqual(self.raised(InvalidFill, Fill, self.book, [(1, 1), (-1, 1), None, (1, 1), (1, 1)]).at, 1)

    def test_any_values(self):
        for value in any_values():
            self.assertEqual(self.raised(InvalidFill, Fill, self.book, value).at, -1)
            self.assertEqual(self.raised(InvalidFill, Fill, self.book, [value] * 5).at, 0)

    def test_of(self):
        self.assertEqual(Fill.of(self.book, {"ice": (1, 1), "brine": (1, 2)}), self.fill)
        self.assertEqual(Fill.of(self.book, {"brine": (1, 2), "ice": (1, 1)}), self.fill)
        self.assertEqual(Fill.of(book=self.book, amounts={"brine": (1, 2), "steam": (0, 1), "ice": (1, 1)}), self.fill)
        self.assertEqual(Fill.of(self.book, {}), Fill(self.book, row(0, 0, 0, 0, 0)))
        self.assertEqual(Fill.of(self.book, {"steam": (3, 1)}).parts, row(0, 0, 0, 0, 3))
        self.assertEqual(self.fill.of(self.book, {"steam": (3, 1)}).lot, ("steam",))

    def test_of_unknown_kinds(self):
        for key in ["heat", "Ice", "", None, True, 0, 1, ("ice",), (1, 1)]:
            self.assertEqual(self.raised(UnknownKind, Fill.of, self.book, {"ice": (1, 1), key: (1, 1), "z": (1, 1)}).name, key)
        self.assertEqual(self.raised(UnknownKind, Fill.of, self.book, {"ice": None, "b": (1, 1), "a": None}).name, "b")

    def test_of_wrong_amounts(self):
        for value in [(-1, 1), (2, 4), None, 1, True, [1, 1], "1", (True, 1), {}]:
            self.assertEqual(self.raised(InvalidFill, Fill.of, self.book, {"ice": value}).at, 0)
            self.assertEqual(self.raised(InvalidFill, Fill.of, self.book, {"steam": None, "salt": value, "ice": (1, 1)}).at, 2)

    def test_of_a_value_that_is_no_dict(self):
        for value in [None, 3, "ice", ("ice", (1, 1)), list(row(1, 1, 1, 1, 1)), self.fill]:
            self.assertEqual(self.raised(InvalidFill, Fill.of, self.book, value).at, -1)

    def test_of_leaves_the_amounts(self):
        amounts = {"brine": (1, 2), "ice": (1, 1)}
        Fill.of(self.book, amounts)
        self.assertEqual(list(amounts.items()), [("brine", (1, 2)), ("ice", (1, 1))])

    def test_sum(self):
        other = Fill.of(self.book, {"brine": (1, 3), "steam": (2, 1)})
        found = self.fill + other
        self.assertEqual(found, Fill(self.book, row(1, 0, 0, "5/6", 2)))
        self.assertEqual(found.lot, ("ice", "brine", "steam"))
        self.assertEqual(found.contents, row("11/2", "5/6", "92/3"))
        self.assertEqual(self.fill + Fill.of(self.book, {}), self.fill)
        self.assertEqual(other.parts, row(0, 0, 0, "1/3", 2))

    def test_difference(self):
        other = Fill.of(self.book, {"brine": (1, 3)})
        self.assertEqual(self.fill - other, Fill(self.book, row(1, 0, 0, "1/6", 0)))
        self.assertEqual(self.fill - Fill.of(example_book(), {}), self.fill)
        none = self.fill - self.fill
        self.assertEqual((none.parts, none.lot, none.cost), (row(0, 0, 0, 0, 0), (), (0, 1)))

    def test_negative_difference(self):
        other = Fill.of(self.book, {"steam": (1, 1), "brine": (2, 3), "ice": (1, 1)})
        self.assertEqual(self.raised(Negative, lambda: self.fill - other).name, "brine")
        self.assertEqual(self.raised(Negative, lambda: self.fill - Fill.of(self.book, {"salt": (1, 10 ** 9)})).name, "salt")
        self.assertEqual(self.raised(Negative, lambda: self.fill - other * (2, 1)).name, "ice")

    def test_multiple(self):
        self.assertEqual(self.fill * (2, 3), Fill(self.book, row("2/3", 0, 0, "1/3", 0)))
        self.assertEqual(self.fill * (1, 1), self.fill)
        self.assertEqual(self.fill * (0, 1), Fill.of(self.book, {}))
        self.assertEqual((self.fill * (4, 1)).contents, row(10, 2, 16))

    def test_wrong_multiples(self):
        for value in [*any_values(), (-1, 1), (-1, 10 ** 9), (2, 4), 1, 0, 2.0, (1, 0), [1, 1], (True, 1), self.fill]:
            self.raised(InvalidFraction, lambda: self.fill * value)

    def test_the_fills_ahead_stay(self):
        other = Fill.of(self.book, {"ice": (1, 3)})
        self.fill + other, self.fill - other, self.fill * (7, 1), self.fill["ice"]
        with self.assertRaises(Negative):
            other - self.fill
        self.assertEqual(self.fill, Fill(example_book(), row(1, 0, 0, "1/2", 0)))
        self.assertEqual(other, Fill.of(example_book(), {"ice": (1, 3)}))
        self.assertEqual((self.fill.lot, self.fill.contents, self.fill.cost), (("ice", "brine"), row("5/2", "1/2", 4), (9, 1)))

    def test_amounts_of_kinds(self):
        self.assertEqual([self.fill[name] for name in self.book.names], list(self.fill.parts))
        for value in [*any_values(), "heat", "Ice", 0, 1, -1, ("ice",), ["ice"]]:
            self.assertIs(self.raised(UnknownKind, lambda: self.fill[value]).name, value)

    def test_contains(self):
        self.assertEqual([name in self.fill for name in self.book.names], [True, False, False, True, False])
        for value in [*any_values(), "heat", "ic", "", ("ice",), ["ice"], (1, 1), 0, 1]:
            self.assertIs(value in self.fill, False)

    def test_is_not_iterated_over(self):
        with self.assertRaises(TypeError):
            list(self.fill)

    def test_equality(self):
        parts = self.fill.parts
        self.assertTrue(self.fill == Fill(example_book(), list(parts)))
        self.assertFalse(self.fill != Fill(example_book(), list(parts)))
        other_book = Book(self.book.wares, *self.book.kinds[:4], Kind("steam", (1, 0, 12), cost=(47, 1)))
        for other in [Fill(self.book, row(1, 0, 0, "1/3", 0)), Fill(other_book, parts), parts, self.book, None, True,
                      {"ice": (1, 1), "brine": (1, 2)}]:
            self.assertFalse(self.fill == other)
            self.assertTrue(self.fill != other)

    def test_len_truth_and_repr(self):
        for amounts, many in [({}, 0), ({"ice": (1, 10 ** 9)}, 1), ({"ice": (1, 1), "steam": (0, 1), "salt": (2, 1)}, 2)]:
            fill = Fill.of(self.book, amounts)
            self.assertEqual((len(fill), bool(fill), repr(fill)), (many, many > 0, f"Fill({many} kinds)"))

    def test_fills_of_wide_books(self):
        book = wide_book(("a.x", "b.x"), [("a.k", (1000, 0), (10 ** 12, 7)), ("b.k", (0, -1), (1, 2))])
        fill = Fill.of(book, {"b.k": (2, 1), "a.k": (7, 10 ** 12)})
        self.assertEqual((fill.lot, fill.contents, fill.cost), (("a.k", "b.k"), row("7/1000000000", -2), (2, 1)))
