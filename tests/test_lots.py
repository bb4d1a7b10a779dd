import random
from itertools import combinations

from shutopen.books import Book, wide_book
from shutopen.errors import Hollow, InvalidLot, TooMany
from shutopen.kinds import Kind
from shutopen.lots import freedom, lots, rank_of, together
from tests.helpers import Case, dot, example_book, frac, fracs, lots_by_sets, own_rank, pair, random_vessels, row, wide_kinds
from tests.test_downhill import WRONG_LOTS


def lots_of(book):
    return lots_by_sets(book.names, [kind.as_row() for kind in book.kinds], [kind.cost for kind in book.kinds])


class TestTogether(Case):
    def check(self, book, lot, all_lots):
        """Holds together against the least of all touched lots that hold the lot."""
        found = together(book, lot)
        holding = [names for names in all_lots if set(lot) <= set(names)]
        self.assertEqual(together(lot=tuple(reversed(lot)), book=Book(book.wares, *book.kinds)), found)
        if not holding:
            self.assertIsNone(found)
            return
        self.assertIs(type(found), tuple)
        prices, names = found
        self.assertEqual(names, holding[0])
        self.assertTrue(all(set(names) <= set(others) for others in holding))
        self.assertEqual(len(fracs(prices)), len(book.wares))
        for kind in book.kinds:
            lack = frac(kind.cost) - dot(prices, kind.as_row())
            self.assertTrue(lack == 0 if kind.name in names else lack > 0)

    def test_example(self):
        book = example_book()
        all_lots = lots_of(book)
        for size in range(6):
            for lot in combinations(book.names, size):
                self.check(book, list(lot), all_lots)
        self.assertEqual(together(book, ["ice", "salt", "brine"])[1], ("ice", "salt", "brine"))
        self.assertEqual(together(book, ["ice", "salt", "brine"])[0], row(0, 0, "9/4"))
        self.assertIsNone(together(book, ["water", "salt"]))
        self.assertEqual(together(book, [])[1], ())

    def test_all_lots_of_random_books(self):
        larger = 0
        for vessel in random_vessels(81, 60):
            book = vessel.book
            all_lots = lots_of(book)
            for size in range(len(book) + 1):
                for lot in combinations(book.names, size):
                    self.check(book, list(lot), all_lots)
                    larger += lot not in all_lots and together(book, lot) is not None
        self.assertGreater(larger, 15)

    def test_kinds_that_rest_only_with_others(self):
        book = Book(["a"], Kind("x", (1,)), Kind("y", (2,)), Kind("air", (0,)), Kind("z", (-1,), cost=(1, 1)))
        self.assertEqual(together(book, ["y"]), (row(0), ("x", "y", "air")))
        self.assertEqual(together(book, ())[1], ("air",))
        self.assertEqual(together(book, ["z"])[1], ("air", "z"))
        self.assertIsNone(together(book, ["z", "x"]))

    def test_hollow_books_and_more_than_twelve_kinds(self):
        hollow = Book(["a"], Kind("x", (1,), cost=(-1, 1)), Kind("y", (-1,)))
        self.assertIsNone(together(hollow, []))
        self.assertIsNone(together(hollow, ["x"]))
        book = wide_kinds(14)
        prices, names = together(book, ["k3"])
        self.assertIn("k3", names)
        self.assertTrue(all((dot(prices, kind.as_row()) == frac(kind.cost)) is (kind.name in names) for kind in book.kinds))

    def test_wrong_lots(self):
        for value, at in WRONG_LOTS:
            for function in (together, rank_of, freedom):
                self.assertEqual(self.raised(InvalidLot, function, example_book(), value).at, at)


class TestRank(Case):
    def test_example(self):
        book = example_book()
        for lot, rank in [([], 0), (["ice"], 1), (["brine", "ice"], 2), (["ice", "water", "steam"], 2), (["ice", "salt", "brine"], 3),
                          (list(book.names), 3)]:
            self.assertEqual((rank_of(book, lot), freedom(book, lot)), (rank, 3 - rank))
        self.assertEqual((rank_of(lot=("ice",), book=book), freedom(lot=("ice",), book=book)), (1, 2))

    def test_random_books(self):
        rnd = random.Random(82)
        for vessel in random_vessels(83, 60):
            book = vessel.book
            lot = rnd.sample(book.names, rnd.randint(0, len(book)))
            rank = own_rank([book.kind(name).as_row() for name in lot])
            self.assertEqual((rank_of(book, lot), freedom(book, lot)), (rank, len(book.wares) - rank))

    def test_kinds_of_zeros_and_equal_kinds(self):
        book = Book(["a", "b"], Kind("air", (0, 0)), Kind("x", (1, 2)), Kind("y", (1, 2)), Kind("z", (-2, -4)))
        self.assertEqual([rank_of(book, lot) for lot in (["air"], ["x", "y"], ["air", "y", "z"])], [0, 1, 1])


class TestLots(Case):
    def check(self, book):
        expected = lots_of(book)
        self.assertEqual(list(lots(book)), expected)
        self.assertEqual(list(lots(book=book, size=None)), expected)
        for size in range(-1, len(book) + 2):
            self.assertEqual(list(lots(book, size=size)), [lot for lot in expected if len(lot) == size])
        return expected

    def test_example(self):
        found = self.check(example_book())
        self.assertEqual(len(found), 18)
        self.assertEqual(list(lots(example_book(), size=3)), [("ice", "water", "brine"), ("ice", "salt", "brine"),
                                                             ("water", "brine", "steam"), ("salt", "brine", "steam")])
        self.assertEqual(list(lots(example_book(), size=0)), [()])

    def test_random_books(self):
        many = 0
        for vessel in random_vessels(84, 150):
            expected = lots_of(vessel.book)
            if expected:
                self.assertEqual(self.check(vessel.book), expected)
                many += len(expected) > 3
            else:
                self.raised(Hollow, next, lots(vessel.book))
        self.assertGreater(many, 40)

    def test_books_in_which_some_price_does_not_matter(self):
        self.check(Book(["a", "b", "c"], Kind("x", (1, 1, 0), cost=(1, 1)), Kind("y", (2, 2, 0), cost=(2, 1)), Kind("z", (-1, -1, 0))))
        self.check(Book(["a", "b"], Kind("air", (0, 0))))
        self.check(Book(["a", "b"], Kind("air", (0, 0), cost=(1, 3)), Kind("x", (0, 0))))
        self.assertEqual(list(lots(Book(["a"], Kind("air", (0,))))), [("air",)])

    def test_degenerate_books(self):
        # Four kinds meet in one corner of three wares, and two kinds are the same.
        self.check(Book(["a", "b", "c"], Kind("p", (1, 0, 1)), Kind("q", (-1, 0, 1)), Kind("r", (0, 1, 1)), Kind("s", (0, -1, 1)),
                        Kind("t", (0, -1, 1)), Kind("u", (0, 0, -1), cost=(5, 1))))

    def test_without_a_greatest_number(self):
        book = wide_book(("a.a", "b.b"), [("x.x", (1000, 1), (10 ** 20, 3)), ("y.y", (1, -1000), (1, 10 ** 20)), ("z.z", (-1, 0), (0, 1))])
        self.assertEqual(list(lots(book)), lots_of(book))

    def test_errors(self):
        self.assertEqual(self.raised(TooMany, next, lots(wide_kinds(13))).most, 12)
        self.assertEqual(self.raised(TooMany, next, lots(wide_kinds(13), size=99)).most, 12)
        hollow = Book(["a"], Kind("x", (1,), cost=(-1, 1)), Kind("y", (-3,), cost=(1, 1)))
        mixture = self.raised(Hollow, next, lots(hollow)).mixture
        self.assertTrue(all(item >= 0 for item in fracs(mixture)))
        self.assertEqual(dot(mixture, row(1, -3)), 0)
        self.assertLess(dot(mixture, row(-1, 1)), 0)
        wide = wide_book(("a",), [(f"k{at}", (0,), (-1, 1)) for at in range(13)])
        self.assertEqual(self.raised(TooMany, next, lots(wide)).most, 12)
        with self.assertRaises(TypeError):
            lots(example_book(), 3)

    def test_twelve_kinds(self):
        rnd = random.Random(85)
        book = wide_book(tuple("abc"), [(f"k{at}", tuple([rnd.randint(0, 5) for _ in range(3)]), pair(rnd.randint(1, 9))) for at in range(12)])
        self.assertEqual(list(lots(book)), lots_of(book))
        self.assertEqual(list(lots(wide_kinds(12))), lots_of(wide_kinds(12)))
