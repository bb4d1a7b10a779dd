import random
from fractions import Fraction

from shutopen.books import Book, wide_book
from shutopen.errors import Hollow, UnknownKind
from shutopen.kinds import Kind
from shutopen.needless import needless, shows, trimmed
from shutopen.rests import hollow_paper
from tests.helpers import (Case, any_values, basic_mixtures, dot, example_book, frac, fracs, lots_by_sets, pair, random_vessels, row, summed,
                           wide_kinds)


def mixed_books(seed, many):
    """Random books, half of them with kinds that are mixtures of others, a little dearer or cheaper."""
    rnd = random.Random(seed)
    for vessel in random_vessels(seed, many):
        book = vessel.book
        if rnd.random() < 0.5:
            one, other = rnd.choice(book.kinds), rnd.choice(book.kinds)
            a, b = rnd.randint(0, 2), rnd.randint(0, 2)
            cost = a * frac(one.cost) + b * frac(other.cost) + rnd.choice([0, 0, 1, Fraction(-1, 2)])
            numbers = tuple([a * p + b * q for p, q in zip(one.numbers, other.numbers)])
            kinds = [*book.kinds, Kind("z", numbers, cost=pair(cost))]
            rnd.shuffle(kinds)
            book = Book(book.wares, *kinds)
        yield book


def is_needless(kinds, kind):
    """Whether some mixture of kinds has the contents of one at no greater cost, by a look at all mixtures over independent
    kinds: the least costs are among theirs, or the costs fall without end.
    """
    columns = [other.as_row() for other in kinds]
    found = basic_mixtures(columns, kind.as_row())
    costs = [sum(weight * frac(other.cost) for weight, other in zip(mixture, kinds)) for mixture in found]
    circles = basic_mixtures([(*column, (1, 1)) for column in columns], row(*[0] * len(kind.numbers), 1))
    falls = any(sum(weight * frac(other.cost) for weight, other in zip(mixture, kinds)) < 0 for mixture in circles)
    return bool(found) and (falls or min(costs) <= frac(kind.cost))


class NeedlessCase(Case):
    def hold_mixture(self, book, name, mixture):
        """Holds a mixture against [22]; returns how much less it costs than the kind."""
        self.assertEqual(len(mixture), len(book))
        self.assertTrue(all(item >= 0 for item in fracs(mixture)))
        self.assertEqual(mixture[book.place(name)], (0, 1))
        contents = summed([kind.as_row() for kind in book.kinds], mixture, len(book.wares))
        self.assertEqual(contents, list(book.kind(name).numbers))
        return frac(book.kind(name).cost) - dot(mixture, tuple([kind.cost for kind in book.kinds]))


class TestNeedless(NeedlessCase):
    def check(self, book, name):
        found = needless(book, name)
        others = [kind for kind in book.kinds if kind.name != name]
        self.assertEqual(found is not None, is_needless(others, book.kind(name)))
        self.assertEqual(needless(name=name, book=Book(book.wares, *book.kinds)), found)
        if found is not None:
            self.assertGreaterEqual(self.hold_mixture(book, name, found), 0)
        return found

    def test_example(self):
        book = example_book()
        for name in book.names:
            self.assertIsNone(self.check(book, name))
        book = book.with_kind(Kind("slush", (2, 0, 2), cost=(6, 1)))
        self.assertEqual(self.check(book, "slush"), row(1, 1, 0, 0, 0, 0))
        self.assertIsNone(self.check(book, "ice"))
        book = book.without("slush").with_kind(Kind("slush", (2, 0, 2), cost=(5, 1)))
        self.assertIsNone(self.check(book, "slush"))

    def test_random_books(self):
        count = [0, 0, 0]
        for book in mixed_books(131, 150):
            for name in book.names:
                found = self.check(book, name)
                count[0 if found is None else 1] += 1
                count[2] += found is not None and hollow_paper(book) is not None
        self.assertGreater(min(count), 20)

    def test_costs_that_fall_without_end(self):
        book = Book(["a", "b"], Kind("x", (1, 0), cost=(-3, 1)), Kind("y", (-1, 0)), Kind("z", (0, 1), cost=(1, 1)),
                    Kind("deep", (2, 1), cost=(-999, 2)), Kind("low", (0, -1), cost=(-9999, 1)))
        self.assertGreaterEqual(self.hold_mixture(book, "deep", self.check(book, "deep")), 0)
        self.assertIsNone(self.check(book, "low"))
        self.assertIsNone(self.check(book, "y"))

    def test_books_with_one_kind(self):
        for numbers, cost, found in [((0,), 0, row(0)), ((0,), "1/2", row(0)), ((0,), -1, None), ((1,), 0, None), ((-1,), 5, None),
                                     ((0, 0), 0, row(0)), ((0, 2), 0, None)]:
            book = Book(list("abcdef")[:len(numbers)], Kind("x", numbers, cost=pair(cost)))
            self.assertEqual(self.check(book, "x"), found)
            self.assertEqual(trimmed(book), book)

    def test_air_that_is_needless_without_others(self):
        book = Book(["a"], Kind("air", (0,), cost=(1, 1)), Kind("x", (1,)))
        self.assertEqual(self.check(book, "air"), row(0, 0))
        self.assertIsNone(self.check(Book(["a"], Kind("air", (0,), cost=(-1, 1)), Kind("x", (1,))), "air"))

    def test_wide_books(self):
        book = wide_book(("a.a", "b.b"), [("p.p", (10 ** 12, 1), (10 ** 15, 7)), ("q.q", (3 * 10 ** 12, 3), (3 * 10 ** 15, 7)), ("r", (0, 1), (0, 1))])
        self.assertEqual(needless(book, "q.q"), row(3, 0, 0))
        self.assertEqual(needless(book, "p.p"), row(0, "1/3", 0))
        book = wide_kinds(14)
        for name in book.names:
            found = needless(book, name)
            self.assertTrue(found is None or self.hold_mixture(book, name, found) >= 0)

    def test_unknown_names(self):
        book = example_book()
        for value in [*any_values(), "iced", "Ice", "ice ", ["ice"], ("ice",), book.kind("ice")]:
            for function in (needless, shows):
                self.assertEqual(self.raised(UnknownKind, function, book, value).name, value)


class TestTrimmed(NeedlessCase):
    def check(self, book):
        found = trimmed(book)
        left = list(book.kinds)
        for kind in book.kinds[::-1]:
            others = [other for other in left if other is not kind]
            if others and is_needless(others, kind):
                left = others
        self.assertEqual(found, Book(book.wares, *left))
        self.assertEqual(trimmed(book=Book(book.wares, *book.kinds)), found)
        return found

    def test_example(self):
        book = example_book()
        self.assertEqual(self.check(book), book)
        self.assertEqual(self.check(book.with_kind(Kind("slush", (2, 0, 2), cost=(6, 1)))), book)

    def test_random_books(self):
        trims = sum(len(self.check(book)) < len(book) for book in mixed_books(132, 150))
        self.assertGreater(trims, 40)

    def test_from_the_last_kind_to_the_first(self):
        # Each of the three is made from each other one.
        twins = Book(["a"], Kind("x", (1,), cost=(1, 1)), Kind("y", (1,), cost=(1, 1)), Kind("z", (2,), cost=(2, 1)))
        self.assertTrue(all(needless(twins, name) is not None for name in twins.names))
        self.assertEqual(self.check(twins).names, ("x",))
        turned = Book(["a"], *twins.kinds[::-1])
        self.assertEqual(self.check(turned).names, ("z",))
        cheaper = Book(["a"], Kind("x", (1,), cost=(2, 1)), Kind("y", (1,), cost=(1, 1)), Kind("z", (2,), cost=(2, 1)))
        self.assertEqual(self.check(cheaper).names, ("y",))

    def test_kinds_that_are_needless_only_beside_others(self):
        # p and q make each other, so that only one of them is left out.
        book = Book(["a", "b"], Kind("p", (1, 0)), Kind("q", (1, 0)), Kind("r", (0, 1)), Kind("s", (2, 3)))
        self.assertEqual(self.check(book).names, ("p", "r"))
        circle = Book(["a"], Kind("up", (1,)), Kind("down", (-1,)), Kind("air", (0,)), Kind("more", (2,)), Kind("less", (-2,)))
        self.assertEqual(self.check(circle).names, ("up", "down"))

    def test_hollow_books_and_the_only_kind_left(self):
        hollow = Book(["a"], Kind("x", (1,), cost=(-1, 1)), Kind("y", (-1,)), Kind("z", (3,), cost=(-9, 1)), Kind("air", (0,), cost=(-2, 1)))
        self.assertEqual(self.check(hollow).names, ("x", "y"))
        airs = Book(["a"], Kind("x", (0,), cost=(-1, 1)), Kind("y", (0,), cost=(-2, 1)), Kind("z", (0,)))
        self.assertEqual(self.check(airs).names, ("x",))
        self.assertEqual(self.check(Book(["a"], Kind("x", (0,)), Kind("y", (0,)))).names, ("x",))
        wide = wide_kinds(14)
        self.assertTrue(set(trimmed(wide).names) < set(wide.names))


class TestShows(NeedlessCase):
    def check(self, book, name):
        found = shows(book, name)
        self.assertEqual(shows(name=name, book=Book(book.wares, *book.kinds)), found)
        word, paper = found
        if word == "never":
            self.assertGreater(self.hold_mixture(book, name, paper), 0)
            return word
        self.assertEqual(word, "shows")
        self.assertEqual(len(fracs(paper)), len(book.wares))
        for kind in book.kinds:
            lack = frac(kind.cost) - dot(paper, kind.as_row())
            self.assertTrue(lack == 0 if kind.name == name else lack >= 0)
        return word

    def test_example(self):
        book = example_book()
        self.assertTrue(all(self.check(book, name) == "shows" for name in book.names))
        book = book.with_kind(Kind("slush", (2, 0, 2), cost=(13, 2)))
        self.assertEqual(self.check(book, "slush"), "never")
        book = book.without("slush").with_kind(Kind("slush", (2, 0, 2), cost=(6, 1)))
        self.assertEqual(self.check(book, "slush"), "shows")

    def test_random_books(self):
        words = {"shows": 0, "never": 0}
        hollow = 0
        for book in mixed_books(133, 150):
            lots = lots_by_sets(book.names, [kind.as_row() for kind in book.kinds], [kind.cost for kind in book.kinds])
            for name in book.names:
                if not lots:
                    mixture = self.raised(Hollow, shows, book, name).mixture
                    self.assertEqual(mixture, hollow_paper(book))
                    hollow += 1
                else:
                    word = self.check(book, name)
                    self.assertEqual(word == "shows", any(name in lot for lot in lots))
                    words[word] += 1
        self.assertGreater(min(hollow, *words.values()), 20)

    def test_single_kinds(self):
        self.assertEqual(shows(Book(["a"], Kind("x", (0,), cost=(1, 1))), "x"), ("never", row(0)))
        self.assertEqual(self.check(Book(["a"], Kind("x", (0,))), "x"), "shows")
        self.assertEqual(self.check(Book(["a"], Kind("x", (-3,), cost=(1, 1))), "x"), "shows")

    def test_errors_in_their_order(self):
        hollow = Book(["a"], Kind("x", (1,), cost=(-1, 1)), Kind("y", (-3,), cost=(1, 1)))
        self.assertEqual(self.raised(UnknownKind, shows, hollow, "z").name, "z")
        mixture = self.raised(Hollow, shows, hollow, "x").mixture
        self.assertEqual(dot(mixture, row(1, -3)), 0)
        self.assertLess(dot(mixture, row(-1, 1)), 0)
