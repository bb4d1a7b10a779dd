import random
from fractions import Fraction

from shutopen.books import Book, wide_book
from shutopen.corners import corners, free_rows, swing
from shutopen.errors import Hollow, InvalidLot, InvalidRow, NotBorne, TooMany
from shutopen.kinds import Kind
from shutopen.lacks import is_borne, lacks
from shutopen.lots import freedom, lots
from shutopen.rests import hollow_paper
from tests.helpers import (Case, basic_rows, dot, example_book, frac, fraction_list, fracs, own_rank, pair, random_vessels, row, summed,
                           wide_kinds)
from tests.test_downhill import WRONG_LOTS
from tests.test_lacks import WRONG_ROWS


class TestCorners(Case):
    def check(self, book):
        found = corners(book)
        self.assertIs(type(found), list)
        columns = [kind.as_row() for kind in book.kinds]
        expected = basic_rows(columns, [kind.cost for kind in book.kinds], len(book.wares))
        self.assertEqual([tuple(fracs(corner)) for corner, _ in found], expected)
        for pair_ in found:
            corner, names = pair_
            self.assertIs(type(pair_), tuple)
            self.assertEqual(names, tuple(kind.name for kind in book.kinds if dot(corner, kind.as_row()) == frac(kind.cost)))
            self.assertEqual(freedom(book, names), 0)
        self.assertEqual(corners(book=Book(book.wares, *book.kinds)), found)
        return found

    def test_examples(self):
        found = self.check(example_book())
        self.assertEqual(found, [(row("-38/7", 0, "30/7"), ("salt", "brine", "steam")), (row(-2, -8, 4), ("water", "brine", "steam")),
                                 (row(0, -6, 3), ("ice", "water", "brine")), (row(0, 0, "9/4"), ("ice", "salt", "brine"))])
        book = Book(["stuff", "heat", "room"], Kind("solid", (1, 0, 2)), Kind("liquid", (1, 2, 1), cost=(6, 1)),
                    Kind("vapour", (1, 12, 20), cost=(34, 1)))
        self.assertEqual(self.check(book), [(row("1/6", "71/24", "-1/12"), ("solid", "liquid", "vapour"))])

    def test_random_books(self):
        several = 0
        for vessel in random_vessels(86, 300):
            if hollow_paper(vessel.book) is None:
                several += len(self.check(vessel.book)) > 1
            else:
                self.raised(Hollow, corners, vessel.book)
        self.assertGreater(several, 30)

    def test_ascending_by_worth(self):
        # As tuples of numbers, (1, 2) would stand ahead of (1, 3), and (-1, 2) ahead of (-1, 1).
        book = Book(["a", "b"], Kind("p", (2, 0), cost=(1, 1)), Kind("q", (-3, 0), cost=(-1, 1)), Kind("r", (0, 1), cost=(-1, 2)),
                    Kind("s", (0, -1), cost=(1, 1)))
        self.assertEqual([corner for corner, _ in self.check(book)], [row("1/3", -1), row("1/3", "-1/2"), row("1/2", -1), row("1/2", "-1/2")])

    def test_books_without_corners(self):
        for book in [Book(["a", "b"], Kind("x", (1, 1)), Kind("y", (-2, -2), cost=(4, 1))), Book(["a"], Kind("air", (0,))),
                     example_book().part(["ice", "steam"])]:
            self.assertEqual(self.check(book), [])

    def test_corners_with_more_kinds_than_wares(self):
        book = Book(["a", "b"], Kind("x", (1, 0)), Kind("y", (0, 1)), Kind("z", (1, 1)), Kind("u", (2, 2)), Kind("air", (0, 0)))
        self.assertEqual(self.check(book), [(row(0, 0), ("x", "y", "z", "u", "air"))])

    def test_corners_are_the_lots_without_freedom(self):
        for book in [example_book(), wide_kinds(12)]:
            names = sorted(names for _, names in corners(book))
            self.assertEqual(names, sorted(lot for lot in lots(book) if freedom(book, lot) == 0))

    def test_errors(self):
        self.assertEqual(self.raised(TooMany, corners, wide_kinds(13)).most, 12)
        wide = wide_book(("a",), [(f"k{at}", (0,), (-1, 1)) for at in range(13)])
        self.assertEqual(self.raised(TooMany, corners, wide).most, 12)
        hollow = Book(["a"], Kind("x", (1,), cost=(-1, 1)), Kind("y", (-3,), cost=(1, 1)))
        mixture = self.raised(Hollow, corners, hollow).mixture
        self.assertEqual((dot(mixture, row(1, -3)), dot(mixture, row(-1, 1)) < 0), (0, True))
        self.assertTrue(all(item >= 0 for item in fracs(mixture)))


class TestFreeRows(Case):
    def test_example(self):
        book = example_book()
        self.assertEqual(free_rows(book, ["ice", "salt", "brine"]), [])
        self.assertEqual(free_rows(book, ["brine", "ice"]), [row(0, -8, 1)])
        self.assertEqual(free_rows(book=book, lot=()), [row(1, 0, 0), row(0, 1, 0), row(0, 0, 1)])
        self.assertEqual(free_rows(book, ["steam"]), [row(0, 1, 0), row(-12, 0, 1)])

    def test_random_books(self):
        rnd = random.Random(87)
        for vessel in random_vessels(88, 80):
            book = vessel.book
            lot = rnd.sample(book.names, rnd.randint(0, len(book)))
            found = free_rows(book, lot)
            self.assertEqual((len(found), own_rank(found)), (freedom(book, lot), freedom(book, lot)))
            prices = fraction_list(rnd, len(book.wares))
            for line in found:
                moved = row(*[a + 7 * b for a, b in zip(fracs(prices), fracs(line))])
                for name in lot:
                    self.assertEqual(lacks(book, prices)[book.place(name)], lacks(book, moved)[book.place(name)])

    def test_wrong_lots(self):
        for value, at in WRONG_LOTS:
            self.assertEqual(self.raised(InvalidLot, free_rows, example_book(), value).at, at)


class TestSwing(Case):
    def test_both_ends(self):
        book = example_book()
        self.assertEqual(swing(book, row(0, 0, "9/4"), row(0, 0, 1)), (None, (0, 1)))
        self.assertEqual(swing(book, row(0, -2, "5/2"), row(0, -4, "1/2")), ((-1, 2), (1, 1)))
        self.assertEqual(swing(direction=row(0, 4, "-1/2"), row=row(0, -2, "5/2"), book=book), ((-1, 1), (1, 2)))

    def test_one_end_and_none(self):
        book = example_book()
        self.assertEqual(swing(book, row(-1, -1, 0), row(1, 1, 0)), (None, (1, 1)))
        self.assertEqual(swing(book, row(-1, -1, 0), row(-1, -1, 0)), ((-1, 1), None))
        self.assertEqual(swing(book, row(0, 0, 0), row(0, 0, 0)), (None, None))
        self.assertEqual(swing(book.part(["ice", "salt"]), row(0, 0, 0), row(0, 0, 5)), (None, None))

    def test_ends_against_rows_at_them_and_beyond(self):
        rnd = random.Random(89)
        ends = {0: 0, 1: 0, 2: 0}
        for vessel in random_vessels(90, 300):
            book = vessel.book
            prices = fraction_list(rnd, len(book.wares), -3, 1)
            if not is_borne(book, prices):
                continue
            direction = fraction_list(rnd, len(book.wares))
            low, high = swing(book, prices, direction)
            ends[(low is not None) + (high is not None)] += 1

            def moved(share):
                return row(*[a + share * b for a, b in zip(fracs(prices), fracs(direction))])

            for end, side in [(low, -1), (high, 1)]:
                if end is None:
                    self.assertTrue(is_borne(book, moved(side * 10 ** 6)))
                else:
                    self.assertGreaterEqual(frac(end) * side, 0)
                    self.assertTrue(is_borne(book, moved(frac(end))))
                    self.assertFalse(is_borne(book, moved(frac(end) + Fraction(side, 10 ** 6))))
        self.assertGreater(min(ends.values()), 5)

    def test_errors_in_their_order(self):
        book = example_book()
        for value, at in WRONG_ROWS:
            self.assertEqual(self.raised(InvalidRow, swing, book, value, None).at, at)
            self.assertEqual(self.raised(InvalidRow, swing, book, row(9, 9, 9), value).at, at)
        self.assertEqual(self.raised(InvalidRow, swing, book, (None, (1, 1), (1, 1)), (1, 2)).at, 0)
        self.assertEqual(self.raised(NotBorne, swing, book, row(0, 9, 3), row(0, 0, 1)).name, "salt")
        self.assertEqual(self.raised(NotBorne, swing, book, row("1/9", 9, 9), row(0, 0, 0)).name, "ice")
        self.assertEqual(self.raised(NotBorne, swing, book, row(0, -9, "22/5"), row(0, 0, 0)).name, "water")

    def test_pairs_of_fractions(self):
        found = swing(example_book(), row(0, 0, 0), row(0, 0, "1/3"))
        self.assertEqual(found, (None, pair(Fraction(27, 4))))
        self.assertEqual(summed([row(0, 0, "1/3")], (found[1],), 3), fracs(row(0, 0, "9/4")))
