import unittest

from shutopen.books import Book, wide_book
from shutopen.errors import (DuplicateName, InvalidKind, InvalidLot, InvalidRow, InvalidWares, TooMany, UnknownKind,
                             UnknownWare)
from shutopen.kinds import Kind
from tests.helpers import EXAMPLE, any_values, example_book, row

LETTERS = "abcdefghijkl"


def plain_kinds(many, wares=1):
    return [Kind(letter, (1,) * wares) for letter in LETTERS[:many]]


class BookCase(unittest.TestCase):
    def raised(self, error, function, *values, **more):
        with self.assertRaises(error) as caught:
            function(*values, **more)
        self.assertIs(type(caught.exception), error)
        return caught.exception


class TestBook(BookCase):
    def test_attributes(self):
        ice, brine = Kind("ice", (1, 0)), Kind("brine", (3, 1), cost=(1, 2))
        book = Book(["water", "salt"], ice, brine)
        self.assertEqual(book.wares, ("water", "salt"))
        self.assertEqual(book.kinds, (ice, brine))
        self.assertEqual(book.names, ("ice", "brine"))
        self.assertEqual([type(value) for value in (book.wares, book.kinds, book.names)], [tuple] * 3)
        self.assertEqual(Book(("ice",), Kind("ice", (1,))).names, ("ice",))

    def test_wares_as_a_whole(self):
        for wares in [(), [], None, True, 5, "", "ab", {}, {"a": 1}, Kind("a", (1,))]:
            self.assertEqual(self.raised(InvalidWares, Book, wares, Kind("a", (1,))).at, -1)
            self.assertEqual(self.raised(InvalidWares, Book, wares=wares).at, -1)

    def test_each_ware(self):
        for item in ["", "A", "abcdefg", "a.b", None, True, 1, ["b"], ("b",), "a"]:
            self.assertEqual(self.raised(InvalidWares, Book, ["a", item, "c"], Kind("a", (1, 1, 1))).at, 1)
            self.assertEqual(self.raised(InvalidWares, Book, ("a", "b", item), Kind("a", (1, 1, 1))).at, 2)
        self.assertEqual(self.raised(InvalidWares, Book, ["a", "b", "b", None], Kind("a", (1,) * 4)).at, 2)

    def test_six_wares_and_one_more(self):
        self.assertEqual(Book(list(LETTERS[:6]), *plain_kinds(1, 6)).wares, tuple("abcdef"))
        self.assertEqual(self.raised(TooMany, Book, list("abcdefg"), *plain_kinds(1, 6)).most, 6)
        self.assertEqual(self.raised(InvalidWares, Book, list("abcdefga")).at, 7)
        self.assertEqual(self.raised(InvalidWares, Book, list("abcdefG")).at, 6)

    def test_kinds(self):
        good = Kind("a", (1, 1))
        self.assertEqual(self.raised(InvalidKind, Book, ["a", "b"]).at, 0)
        for value in [Kind("b", (1,)), Kind("b", (1, 1, 1)), None, "b", True, 1, ("b", (1, 1)), [good], (good,), {}]:
            self.assertEqual(self.raised(InvalidKind, Book, ["a", "b"], value).at, 0)
            self.assertEqual(self.raised(InvalidKind, Book, ["a", "b"], good, value).at, 1)
            self.assertEqual(self.raised(InvalidKind, Book, ["a", "b"], good, good, value, None).at, 2)

    def test_double_names(self):
        found = self.raised(DuplicateName, Book, ["a"], *plain_kinds(3), Kind("b", (2,)), Kind("a", (2,)))
        self.assertEqual(found.name, "b")

    def test_ten_kinds_and_one_more(self):
        self.assertEqual(len(Book(["a"], *plain_kinds(10))), 10)
        self.assertEqual(self.raised(TooMany, Book, ["a"], *plain_kinds(11)).most, 10)

    def test_order_of_the_errors(self):
        kinds = plain_kinds(11)
        self.raised(InvalidWares, Book, [])
        self.raised(InvalidWares, Book, ["A"], None)
        self.raised(TooMany, Book, list("abcdefg"))
        self.assertEqual(self.raised(TooMany, Book, list("abcdefg"), None).most, 6)
        self.assertEqual(self.raised(InvalidKind, Book, ["a"], *kinds, kinds[0], None).at, 12)
        self.assertEqual(self.raised(DuplicateName, Book, ["a"], *kinds, kinds[3]).name, "d")

    def test_equal_numbers_and_zeros_and_a_name_of_both_are_allowed(self):
        book = Book(["a", "b"], Kind("a", (0, 0)), Kind("b", (0, 0)), Kind("c", (1, 2)), Kind("d", (1, 2)))
        self.assertEqual(book.names, ("a", "b", "c", "d"))

    def test_any_values(self):
        for value in any_values():
            if value not in (["open"],):
                self.raised(InvalidWares, Book, value, value)
            if not isinstance(value, Kind):
                self.assertEqual(self.raised(InvalidKind, Book, ["a"], value).at, 0)

    def test_lists_are_copied(self):
        wares = ["a"]
        book = Book(wares, Kind("a", (1,)))
        wares[0] = "b"
        wares.append("c")
        self.assertEqual(book.wares, ("a",))

    def test_kind_place_and_ware_index(self):
        book = example_book()
        for at, name in enumerate(["ice", "water", "salt", "brine", "steam"]):
            self.assertEqual(book.place(name), at)
            self.assertIs(book.kind(name), book.kinds[at])
            self.assertEqual(book.kind(name=name).name, name)
        self.assertEqual([book.ware_index(ware) for ware in ("water", "salt", "heat")], [0, 1, 2])
        self.assertEqual((book.place(name="salt"), book.ware_index(ware="heat")), (2, 2))

    def test_unknown_names(self):
        book = example_book()
        for value in [*any_values(), "heat", "Ice", "ic", "ice ", ["ice"], ("ice",), 0, 1]:
            self.assertIs(self.raised(UnknownKind, book.kind, value).name, value)
            self.assertIs(self.raised(UnknownKind, book.place, value).name, value)
            self.assertIs(self.raised(UnknownKind, book.without, value).name, value)
        for value in [*any_values(), "ice", "brine", ["salt"], 0]:
            self.assertIs(self.raised(UnknownWare, book.ware_index, value).name, value)

    def test_contains(self):
        book = example_book()
        for name in book.names:
            self.assertIs(name in book, True)
        for value in [*any_values(), "heat", "ic", "Ice", "", ("ice",), ["ice"], book.kinds[0], 0]:
            self.assertIs(value in book, False)

    def test_equality(self):
        book = example_book()
        self.assertTrue(book == example_book())
        self.assertFalse(book != example_book())
        kinds = book.kinds
        for other in [Book(["water", "heat", "salt"], *kinds), Book(book.wares, *kinds[:4]), Book(book.wares, *kinds[::-1]),
                      Book(book.wares, *kinds[:4], Kind("steam", (1, 0, 12))), None, EXAMPLE, kinds[0], book.kinds]:
            self.assertFalse(book == other)
            self.assertTrue(book != other)

    def test_len_and_repr(self):
        self.assertEqual((len(example_book()), repr(example_book())), (5, "Book(5 kinds)"))
        one = Book(["a"], Kind("a", (1,)))
        self.assertEqual((len(one), repr(one)), (1, "Book(1 kinds)"))


class TestChangedBooks(BookCase):
    def setUp(self):
        self.book = example_book()

    def tearDown(self):
        self.assertEqual(self.book, example_book())
        self.assertEqual(self.book.names, ("ice", "water", "salt", "brine", "steam"))

    def test_with_kind(self):
        fog = Kind("fog", (1, 0, 1), cost=(1, 2))
        more = self.book.with_kind(fog)
        self.assertEqual(more.names, ("ice", "water", "salt", "brine", "steam", "fog"))
        self.assertEqual(more.kinds, (*self.book.kinds, fog))
        self.assertEqual(more.wares, self.book.wares)
        self.assertEqual(self.book.with_kind(kind=fog), more)

    def test_with_wrong_kinds(self):
        for value in [*any_values(), Kind("fog", (1, 0)), Kind("fog", (1, 0, 0, 0)), "fog", self.book]:
            self.assertEqual(self.raised(InvalidKind, self.book.with_kind, value).at, 5)
        self.assertEqual(self.raised(DuplicateName, self.book.with_kind, Kind("salt", (1, 1, 1))).name, "salt")
        self.assertEqual(self.raised(InvalidKind, self.book.with_kind, Kind("salt", (1, 1))).at, 5)

    def test_with_kind_up_to_ten(self):
        book = Book(["a"], *plain_kinds(9)).with_kind(Kind("j", (3,)))
        self.assertEqual(len(book), 10)
        self.assertEqual(self.raised(TooMany, book.with_kind, Kind("k", (3,))).most, 10)
        self.assertEqual(self.raised(DuplicateName, book.with_kind, Kind("j", (3,))).name, "j")
        self.assertEqual(self.raised(InvalidKind, book.with_kind, Kind("j", (3, 3))).at, 10)

    def test_without(self):
        less = self.book.without("water")
        self.assertEqual(less.names, ("ice", "salt", "brine", "steam"))
        self.assertEqual(less.kinds, (self.book.kinds[0], *self.book.kinds[2:]))
        self.assertEqual(less.wares, self.book.wares)
        self.assertEqual(self.book.without("ice").names, ("water", "salt", "brine", "steam"))
        self.assertEqual(self.book.without(name="steam").names, ("ice", "water", "salt", "brine"))

    def test_without_the_only_kind(self):
        one = Book(["a"], Kind("a", (1,)))
        self.assertEqual(self.raised(InvalidKind, one.without, "a").at, 0)
        self.assertEqual(self.raised(UnknownKind, one.without, "b").name, "b")
        self.assertEqual(len(one.with_kind(Kind("b", (2,))).without("a")), 1)

    def test_part(self):
        part = self.book.part(["brine", "ice"])
        self.assertEqual(part.names, ("ice", "brine"))
        self.assertEqual(part.kinds, (self.book.kinds[0], self.book.kinds[3]))
        self.assertEqual(part.wares, self.book.wares)
        self.assertEqual(self.book.part(lot=self.book.names[::-1]), self.book)
        for empty in ((), []):
            self.assertEqual(self.raised(InvalidKind, self.book.part, empty).at, 0)

    def test_ordered(self):
        self.assertEqual(self.book.ordered(["steam", "ice", "salt"]), ("ice", "salt", "steam"))
        self.assertEqual(self.book.ordered(("water",)), ("water",))
        self.assertEqual(self.book.ordered(lot=[]), ())
        self.assertEqual(self.book.ordered(()), ())

    def test_wrong_lots(self):
        for function in (self.book.part, self.book.ordered):
            for value in [None, True, 3, "ice", "", {}, {"ice": 1}, self.book]:
                self.assertEqual(self.raised(InvalidLot, function, value).at, -1)
            for item in ["heat", "Ice", "ice", None, 0, ("salt",), ["salt"], self.book.kinds[2]]:
                self.assertEqual(self.raised(InvalidLot, function, ["ice", item, None]).at, 1)
                self.assertEqual(self.raised(InvalidLot, function, ("ice", "steam", item)).at, 2)
            self.assertEqual(self.raised(InvalidLot, function, ["heat"]).at, 0)

    def test_moved(self):
        moved = self.book.moved(row("1/2", -2, 3))
        self.assertEqual([kind.cost for kind in moved.kinds], list(row("1/2", "25/2", -2, "83/2", "165/2")))
        self.assertEqual([(kind.name, kind.numbers) for kind in moved.kinds],
                         [(kind.name, kind.numbers) for kind in self.book.kinds])
        self.assertEqual((moved.wares, moved.names), (self.book.wares, self.book.names))
        self.assertEqual(moved.moved(row=row("-1/2", 2, -3)), self.book)
        self.assertEqual(self.book.moved(row(0, 0, 0)), self.book)

    def test_moved_beyond_the_limits_of_costs(self):
        moved = self.book.moved(row("1/1000", 0, 10 ** 20))
        self.assertEqual(moved.kind("steam").cost, (12 * 10 ** 23 + 46001, 1000))
        self.assertEqual(moved.with_kind(Kind("fog", (0, 0, 0))).names[5:], ("fog",))

    def test_moved_by_wrong_rows(self):
        for value in [None, 3, (), row(1, 2), row(1, 2, 3, 4), [(1, 1)] * 3, "abc"]:
            self.assertEqual(self.raised(InvalidRow, self.book.moved, value).at, -1)
        for item in [None, 1, (2, 4), (True, 1), [1, 1], "1"]:
            self.assertEqual(self.raised(InvalidRow, self.book.moved, (item, (1, 1), None)).at, 0)
            self.assertEqual(self.raised(InvalidRow, self.book.moved, ((1, 1), (1, 1), item)).at, 2)


class TestWideBook(BookCase):
    def test_without_limits(self):
        wares = tuple([f"pot.{letter}" for letter in LETTERS[:8]])
        kinds = [(f"some.long.name{at}", (at, -1000, 10 ** 9, 0, 0, 0, 0, 1), (10 ** 20 + 1, 10 ** 9)) for at in range(24)]
        book = wide_book(wares, kinds)
        self.assertIs(type(book), Book)
        self.assertEqual(book.wares, wares)
        self.assertEqual(book.names, tuple([name for name, _, _ in kinds]))
        self.assertEqual([(kind.name, kind.numbers, kind.cost) for kind in book.kinds], kinds)
        self.assertTrue(all(type(kind) is Kind for kind in book.kinds))
        self.assertEqual((len(book), repr(book)), (24, "Book(24 kinds)"))
        self.assertEqual(wide_book(kinds=tuple(kinds), wares=wares), book)
        self.assertEqual(repr(book.kinds[7]), "Kind(some.long.name7)")
        self.assertEqual(book.kinds[2].as_row()[1], (-1000, 1))

    def test_equals_a_plain_book(self):
        book = example_book()
        wide = wide_book(book.wares, [(kind.name, kind.numbers, kind.cost) for kind in book.kinds])
        self.assertTrue(wide == book and book == wide)
        self.assertEqual(wide.text(), EXAMPLE)
        self.assertTrue(wide.kinds[0] == book.kinds[0] and book.kinds[0] == wide.kinds[0])

    def test_methods_that_do_not_look_at_the_limits(self):
        wares = tuple([f"a.{letter}" for letter in LETTERS[:8]])
        book = wide_book(wares, [(f"a.{letter}", (1,) * 8, (1, 1)) for letter in LETTERS])
        self.assertEqual(len(book.without("a.b")), 11)
        self.assertEqual(book.part(["a.c", "a.a"]).names, ("a.a", "a.c"))
        self.assertEqual(book.part(book.names), book)
        self.assertEqual(book.ordered(["a.l", "a.a"]), ("a.a", "a.l"))
        self.assertEqual(book.moved(row(*[1] * 8)).kinds[11].cost, (9, 1))
        self.assertEqual(book.place("a.k"), 10)
        self.assertEqual(book.ware_index("a.h"), 7)
        self.assertIn("a.l", book)
        self.assertNotIn("l", book)
        self.assertEqual(book.text().split("\n")[1], "kind a.a 1 1 1 1 1 1 1 1 cost 1")

    def test_with_kind_looks_at_the_number_of_kinds_alone(self):
        wares = tuple([f"a.{letter}" for letter in LETTERS[:8]])
        kinds = [(f"a.{letter}", (100,) * 8, (1, 1)) for letter in LETTERS]
        more = wide_book(wares, kinds[-1:]).kinds[0]
        book = wide_book(wares, kinds[:9]).with_kind(more)
        self.assertEqual(book.names[9], "a.l")
        self.assertEqual(book.wares, wares)
        self.assertEqual(self.raised(TooMany, wide_book(wares, kinds[:10]).with_kind, more).most, 10)
        self.assertEqual(self.raised(InvalidKind, book.with_kind, Kind("a", (1,))).at, 10)
        self.assertEqual(self.raised(DuplicateName, book.with_kind, more).name, "a.l")

    def test_wide_kinds_may_be_in_plain_books(self):
        wide = wide_book(("a.a",), [("some.long.name", (5000,), (1, 1000))]).kinds[0]
        book = Book(["a"], wide, Kind("b", (1,)))
        self.assertEqual(book.names, ("some.long.name", "b"))
        self.assertEqual(self.raised(DuplicateName, Book, ["a"], wide, wide).name, "some.long.name")


class TestText(BookCase):
    def test_text_and_str(self):
        self.assertEqual(example_book().text(), EXAMPLE)
        self.assertEqual(str(example_book()), EXAMPLE)
        book = Book(["a", "b"], Kind("x", (-3, 99), cost=(-7, 2)))
        self.assertEqual(str(book), "wares a b\nkind x -3 99 cost -7/2\n")

    def test_read(self):
        book = Book.read(EXAMPLE)
        self.assertEqual(book.wares, ("water", "salt", "heat"))
        self.assertEqual(book.names, ("ice", "water", "salt", "brine", "steam"))
        self.assertEqual([kind.numbers for kind in book.kinds],
                         [(1, 0, 0), (1, 0, 2), (0, 1, 0), (3, 1, 8), (1, 0, 12)])
        self.assertEqual([kind.cost for kind in book.kinds], [(0, 1), (6, 1), (0, 1), (18, 1), (46, 1)])
        self.assertEqual(Book.read(text=EXAMPLE), book)
        self.assertEqual(book.read(EXAMPLE), book)
