import random
from fractions import Fraction

from shutopen.books import Book, wide_book
from shutopen.errors import Clash, InvalidFraction, InvalidLook, InvalidRow, InvalidSaying, TooMany
from shutopen.kinds import Kind
from shutopen.lots import together
from shutopen.looks import Looks
from tests.helpers import (Case, any_values, basic_rows, dot, example_book, frac, fraction_list, fracs, pair, random_vessels, row, summed,
                           wide_kinds)
from tests.test_lacks import WRONG_ROWS

NONE = (None, None, None)


def cost_row(book):
    return tuple([kind.cost for kind in book.kinds])


def one_of(book, *names):
    """The row with 1 at some kinds."""
    return row(*[1 if name in names else 0 for name in book.names])


def random_looks(rnd, book, most=3):
    """Looks and sayings of any kind, some of which hold with the costs of the book."""
    costs = fracs(cost_row(book))
    looks, sayings = [], []
    for _ in range(rnd.randint(0, most)):
        lot = rnd.sample(book.names, rnd.randint(0, min(2, len(book))))
        found = together(book, lot)
        seen = fracs(found[0]) if found else [Fraction(rnd.randint(-2, 2)) for _ in book.wares]
        looks.append((tuple(lot), tuple([None if rnd.random() < 0.6 else pair(price) for price in seen])))
    for _ in range(rnd.randint(0, most)):
        weights = [rnd.randint(-1, 2) for _ in book.names]
        total = sum(weight * cost for weight, cost in zip(weights, costs))
        low = None if rnd.random() < 0.3 else pair(total - rnd.choice([0, 1, 3, -2]))
        high = None if rnd.random() < 0.3 else pair(total + rnd.choice([0, 1, 4, -2]))
        sayings.append((row(*weights), low, high))
    return Looks(book, looks=looks, sayings=sayings)


def books(seed, many):
    return [vessel.book for vessel in random_vessels(seed, many)]


def lines_by_hand(looks):
    """The lines of [32] as pairs of a list and a limit of Python's fractions."""
    book, width = looks.book, len(looks.book)
    starts = []
    for _, prices in looks.looks:
        starts.append(width)
        width += sum(price is None for price in prices)
    found = []
    for touching in (False, True):
        for (lot, prices), start in zip(looks.looks, starts):
            for k, kind in enumerate(book.kinds):
                if not touching or kind.name in lot:
                    line, limit, place = [Fraction(0)] * width, Fraction(0), start
                    line[k] = Fraction(-1)
                    for number, price in zip(kind.numbers, prices):
                        if price is None:
                            line[place] = Fraction(number)
                            place += 1
                        else:
                            limit -= number * frac(price)
                    found.append(([-item for item in line], -limit) if touching else (line, limit))
    for weights, low, high in looks.sayings:
        line = fracs(weights) + [Fraction(0)] * (width - len(weights))
        if low is not None:
            found.append(([-item for item in line], -frac(low)))
        if high is not None:
            found.append((line, frac(high)))
    return found


class LooksCase(Case):
    def hold_fit(self, looks, costs, rows):
        """Holds costs, and a price row for each look, against [31]."""
        book = looks.book
        values = fracs(costs)
        self.assertEqual((len(values), len(rows)), (len(book), len(looks.looks)))
        for weights, low, high in looks.sayings:
            total = dot(weights, costs)
            self.assertTrue((low is None or total >= frac(low)) and (high is None or total <= frac(high)))
        for (lot, noted), prices in zip(looks.looks, rows):
            self.assertEqual(len(fracs(prices)), len(book.wares))
            self.assertTrue(all(own is None or own == price for own, price in zip(noted, prices)))
            for kind, cost in zip(book.kinds, values):
                lack = cost - dot(prices, kind.as_row())
                self.assertTrue(lack == 0 if kind.name in lot else lack >= 0)

    def hold_weights(self, looks, weights, sums):
        """Holds weights of lines against the sums that they shall have; returns the sum of the limits."""
        lines = lines_by_hand(looks)
        self.assertEqual(len(weights), len(lines))
        self.assertTrue(all(item >= 0 for item in fracs(weights)))
        width = len(lines[0][0]) if lines else len(sums)
        self.assertEqual([sum((frac(weight) * line[at] for weight, (line, _) in zip(weights, lines)), Fraction(0)) for at in range(width)],
                         [*sums, *[0] * (width - len(sums))])
        return sum((frac(weight) * limit for weight, (_, limit) in zip(weights, lines)), Fraction(0))

    def hold_clash(self, looks, weights):
        self.assertLess(self.hold_weights(looks, weights, [0] * len(looks.book)), 0)

    def same(self, looks):
        return Looks(sayings=list(looks.sayings), looks=list(looks.looks), book=Book(looks.book.wares, *looks.book.kinds))


class TestMaking(LooksCase):
    def setUp(self):
        self.book = example_book()

    def test_attributes(self):
        looks = [(("brine", "ice"), (None, None, (5, 2))), ((), NONE)]
        sayings = [(row(1, 0, 0, 0, 0), (0, 1), None)]
        found = Looks(self.book, looks=looks, sayings=sayings)
        self.assertEqual((found.book, found.looks, found.sayings),
                         (self.book, ((("ice", "brine"), (None, None, (5, 2))), ((), NONE)), (sayings[0],)))
        looks.append(1)
        sayings[0] = None
        self.assertEqual((len(found.looks), len(found.sayings)), (2, 1))
        self.assertEqual((len(found), repr(found), bool(found)), (3, "Looks(2 looks, 1 sayings)", True))
        empty = Looks(self.book)
        self.assertEqual((len(empty), repr(empty), bool(empty), empty.looks, empty.sayings), (0, "Looks(0 looks, 0 sayings)", True, (), ()))
        self.assertEqual(Looks(self.book, looks=tuple(found.looks), sayings=()).looks, found.looks)
        with self.assertRaises(TypeError):
            Looks(self.book, [])

    WRONG_LOOKS = [(), ("ice", NONE), (["ice"], NONE), (("ice",), list(NONE)), (("ice",), NONE, None), (("iced",), NONE), (("ice", "ice"), NONE),
                   (("ice", ["salt"]), NONE), ((None,), NONE), (("ice",), (None, None)), (("ice",), (None,) * 4), (("ice",), (None, None, 3)),
                   (("ice",), (None, (2, 4), None)), (("ice",), ((True, 1), None, None)), (("ice",), None), [("ice",), NONE], ((True,), NONE),
                   (("ice", "salt", "ice"), NONE), ((("ice",),), NONE)]

    def test_wrong_looks(self):
        right = (("ice",), NONE)
        for value in [value for value in any_values() if not isinstance(value, (list, tuple))]:
            self.assertEqual(self.raised(InvalidLook, Looks, self.book, looks=value).at, -1)
        for wrong in [*any_values(), *self.WRONG_LOOKS]:
            for at in range(3):
                listed = [right] * 3
                listed[at] = wrong
                self.assertEqual(self.raised(InvalidLook, Looks, self.book, looks=listed).at, at)
                self.assertEqual(self.raised(InvalidLook, Looks, self.book, looks=tuple(listed) + (None,), sayings=None).at, at)
            found = Looks(self.book, looks=[right, right])
            self.assertEqual(self.raised(InvalidLook, found.with_look, wrong).at, 2)
            self.assertEqual(self.raised(InvalidLook, Looks(self.book).with_look, wrong).at, 0)

    def test_wrong_sayings(self):
        weights = row(1, 2, 3, 4, 5)
        right = (weights, None, (3, 1))
        wrongs = [(), (weights,), (weights, None), (weights, None, None, None), [weights, None, None], (list(weights), None, None),
                  (weights[:4], None, None), (weights + weights, None, None), (weights, 1, None), (weights, None, (2, 4)), (weights, (1, 0), None),
                  (weights, None, True), (None, None, None), (((1, 1),) * 4 + (None,), None, None), (weights, False, None)]
        for value in [value for value in any_values() if not isinstance(value, (list, tuple))]:
            self.assertEqual(self.raised(InvalidSaying, Looks, self.book, sayings=value).at, -1)
        for wrong in [*any_values(), *wrongs]:
            for at in range(3):
                listed = [right] * 3
                listed[at] = wrong
                self.assertEqual(self.raised(InvalidSaying, Looks, self.book, sayings=listed).at, at)
            found = Looks(self.book, looks=[((), NONE)], sayings=[right, right])
            self.assertEqual(self.raised(InvalidSaying, found.with_saying, wrong).at, 2)

    def test_limits_and_the_order_of_errors(self):
        look, saying = ((), NONE), (row(0, 0, 0, 0, 0), None, None)
        found = Looks(self.book, looks=[look] * 4, sayings=[saying] * 6)
        self.assertEqual(len(found), 10)
        self.assertEqual(self.raised(TooMany, Looks, self.book, looks=[look] * 5).most, 4)
        self.assertEqual(self.raised(TooMany, Looks, self.book, sayings=[saying] * 7).most, 6)
        self.assertEqual(self.raised(InvalidLook, Looks, self.book, looks=[look] * 5 + [None], sayings=7).at, 5)
        self.assertEqual(self.raised(TooMany, Looks, self.book, looks=[look] * 5, sayings=[None]).most, 4)
        self.assertEqual(self.raised(InvalidSaying, Looks, self.book, looks=[look] * 4, sayings=[saying] * 9 + [7]).at, 9)

    def test_one_more(self):
        look, saying = (("brine", "ice"), NONE), (row(0, 1, 0, 0, 0), None, (1, 1))
        found = Looks(self.book, looks=[look])
        more = found.with_look((("salt", "ice"), ((1, 1), None, None)))
        self.assertEqual(more.looks, ((("ice", "brine"), NONE), (("ice", "salt"), ((1, 1), None, None))))
        self.assertEqual((len(found.looks), more.book, more.sayings), (1, self.book, ()))
        self.assertEqual(found.with_saying(saying=saying).sayings, (saying,))
        self.assertEqual(found.with_look(look=look).with_saying(saying).looks, (found.looks[0],) * 2)

    def test_one_more_beyond_the_limits(self):
        look, saying = (("ice", "salt"), ((0, 1), (0, 1), None)), (one_of(self.book, "ice"), (0, 1), (5, 1))
        found = Looks(self.book, looks=[look] * 4, sayings=[saying] * 6)
        more = found.with_look(look).with_saying(saying).with_look((("brine",), NONE)).with_saying((one_of(self.book, "salt"), (3, 1), None))
        self.assertEqual((len(more.looks), len(more.sayings), repr(more)), (6, 8, "Looks(6 looks, 8 sayings)"))
        self.assertEqual(len(found), 10)
        self.assertEqual(self.raised(InvalidLook, more.with_look, None).at, 6)
        self.assertEqual(self.raised(InvalidSaying, more.with_saying, None).at, 8)
        self.assertEqual([fracs(line) for line, _ in more.lines()], [line for line, _ in lines_by_hand(more)])
        self.hold_clash(more, more.fit()[1])
        self.assertEqual(found.with_look(look).fit()[0], "fit")


class TestLines(LooksCase):
    def check(self, looks):
        found = looks.lines()
        self.assertIs(type(found), list)
        self.assertEqual([(fracs(line), frac(limit)) for line, limit in found], lines_by_hand(looks))
        found.append(None)
        self.assertEqual(looks.lines(), found[:-1])
        return looks.lines()

    def test_small_book(self):
        book = Book(["a", "b"], Kind("x", (1, 2)), Kind("y", (3, -1)))
        looks = Looks(book, looks=[(("y",), (None, (2, 1))), (("x", "y"), (None, None))],
                      sayings=[(row(1, -1), (1, 2), (3, 1)), (row(0, 2), None, None), (row(0, 1), None, (4, 1)), (row(1, 0), (-4, 1), None)])
        expected = [(row(-1, 0, 1, 0, 0), (-4, 1)), (row(0, -1, 3, 0, 0), (2, 1)),
                    (row(-1, 0, 0, 1, 2), (0, 1)), (row(0, -1, 0, 3, -1), (0, 1)),
                    (row(0, 1, -3, 0, 0), (-2, 1)),
                    (row(1, 0, 0, -1, -2), (0, 1)), (row(0, 1, 0, -3, 1), (0, 1)),
                    (row(-1, 1, 0, 0, 0), (-1, 2)), (row(1, -1, 0, 0, 0), (3, 1)),
                    (row(0, 1, 0, 0, 0), (4, 1)), (row(-1, 0, 0, 0, 0), (4, 1))]
        self.assertEqual(self.check(looks), expected)

    def test_random_looks(self):
        rnd = random.Random(161)
        for book in books(162, 60):
            self.check(random_looks(rnd, book))
        self.assertEqual(Looks(example_book()).lines(), [])

    def test_lots_in_the_order_of_the_book_and_noted_prices(self):
        book = example_book()
        one = Looks(book, looks=[(("steam", "ice"), row(0, 0, 3))])
        self.assertEqual(self.check(one), Looks(book, looks=[(("ice", "steam"), row(0, 0, 3))]).lines())
        self.assertTrue(all(len(line) == 5 for line, _ in one.lines()))

    def test_only_numbers_count(self):
        book = example_book()
        looks = Looks(book, looks=[(("ice",), NONE)])
        self.assertEqual(Looks(looks.book_with(row(1, 2, 3, 4, 5)), looks=looks.looks).lines(), looks.lines())


class TestFit(LooksCase):
    def check(self, looks):
        found = looks.fit()
        self.assertIs(type(found), tuple)
        self.assertEqual(self.same(looks).fit(), found)
        if found[0] == "fit":
            self.assertEqual(len(found), 3)
            self.assertIs(type(found[2]), tuple)
            self.hold_fit(looks, found[1], found[2])
            self.assertTrue(looks.fits_with(found[1]))
        else:
            word, weights = found
            self.assertEqual(word, "clash")
            self.hold_clash(looks, weights)
        return found[0]

    def test_example(self):
        book = example_book()
        looks = Looks(book, looks=[(("ice", "salt", "brine"), NONE), (("water", "brine", "ice"), (None, None, (3, 1)))],
                      sayings=[(one_of(book, "ice"), (0, 1), (0, 1)), (one_of(book, "brine"), (18, 1), (18, 1))])
        self.assertEqual(self.check(looks), "fit")
        # Ice costs 0 and water 6 under the price 3 of heat, so that water and ice cannot rest together at 2.
        looks = looks.with_look((("water", "ice"), (None, None, (2, 1)))).with_saying((one_of(book, "water"), (6, 1), None))
        self.assertEqual(self.check(looks), "clash")

    def test_random_looks(self):
        rnd = random.Random(163)
        words = {"fit": 0, "clash": 0}
        for book in books(164, 250):
            words[self.check(random_looks(rnd, book))] += 1
        self.assertGreater(min(words.values()), 30)

    def test_nothing_known(self):
        found = Looks(example_book()).fit()
        self.assertEqual((found[0], len(fracs(found[1])), found[2]), ("fit", 5, ()))
        self.assertEqual(self.check(Looks(example_book(), sayings=[(row(0, 0, 0, 0, 0), None, None)])), "fit")

    def test_sayings_at_odds(self):
        book = example_book()
        for low, high, word in [((3, 1), (3, 1), "fit"), ((3, 1), (5, 2), "clash"), ((10 ** 9, 7), None, "fit"), (None, (-10 ** 9, 7), "fit")]:
            self.assertEqual(self.check(Looks(book, sayings=[(row(1, 1, 0, 0, -2), low, high)])), word)
        self.assertEqual(self.check(Looks(book, sayings=[(row(0, 0, 0, 0, 0), (1, 9), None)])), "clash")
        self.assertEqual(self.check(Looks(book, sayings=[(one_of(book, "ice"), (1, 1), None), (one_of(book, "ice"), None, (1, 2))])), "clash")

    def test_books_with_more_kinds(self):
        book = wide_kinds(14)
        self.assertEqual(self.check_wide(Looks(book, looks=[(("k1", "k13"), NONE), (("k2",), row(1, 1, 1))])), "fit")

    def check_wide(self, looks):
        word, costs, rows = looks.fit()
        self.hold_fit(looks, costs, rows)
        return word


class TestFitsWith(LooksCase):
    def by_hand(self, looks, costs):
        """Whether costs fit, by a look at the price rows that touch as many kinds as can be."""
        for weights, low, high in looks.sayings:
            total = dot(weights, costs)
            if (low is not None and total < frac(low)) or (high is not None and total > frac(high)):
                return False
        book = looks.book
        for lot, noted in looks.looks:
            free = [at for at, price in enumerate(noted) if price is None]
            left = [pair(frac(cost) - sum(number * frac(price) for number, price in zip(kind.numbers, noted) if price is not None))
                    for kind, cost in zip(book.kinds, costs)]
            # Prices that a book does not bind are bound from both sides here, far away from all else.
            columns = [tuple([kind.as_row()[at] for at in free]) for kind in book.kinds]
            columns += [row(*[sign * (k == at) for k in range(len(free))]) for at in range(len(free)) for sign in (1, -1)]
            limits = left + [(10 ** 6, 1)] * (2 * len(free))
            rows = basic_rows(columns, limits, len(free))
            kept = [k for k, name in enumerate(book.names) if name in lot]
            if not any(all(sum(a * frac(b) for a, b in zip(prices, columns[k])) == frac(left[k]) for k in kept) for prices in rows):
                return False
        return True

    def test_random_costs(self):
        rnd = random.Random(165)
        count = [0, 0]
        for book in books(166, 120):
            if len(book.wares) < 4:
                looks = random_looks(rnd, book, 2)
                for costs in (cost_row(book), fraction_list(rnd, len(book), 0, 4, 2)):
                    found = looks.fits_with(costs)
                    self.assertEqual(found, self.by_hand(looks, costs))
                    self.assertIs(self.same(looks).fits_with(costs=costs), found)
                    count[found] += 1
        self.assertGreater(min(count), 30)

    def test_example(self):
        book = example_book()
        looks = Looks(book, looks=[(("ice", "salt", "brine"), NONE)])
        self.assertIs(looks.fits_with(cost_row(book)), True)
        self.assertIs(Looks(book, looks=[(("water", "salt"), NONE)]).fits_with(cost_row(book)), False)
        self.assertIs(Looks(book, looks=[(("ice", "brine"), (None, None, (5, 2)))]).fits_with(cost_row(book)), True)
        self.assertIs(Looks(book, looks=[(("ice", "brine"), (None, None, (2, 1)))]).fits_with(cost_row(book)), False)
        self.assertIs(Looks(book, looks=[(("ice", "brine"), row(0, -2, "5/2"))]).fits_with(cost_row(book)), True)
        self.assertIs(Looks(book, looks=[(("ice", "brine"), row(0, -3, "5/2"))]).fits_with(cost_row(book)), False)
        self.assertIs(Looks(book, looks=[((), row(0, -3, "5/2"))]).fits_with(cost_row(book)), True)
        self.assertIs(Looks(book, looks=[((), row(0, 3, "5/2"))]).fits_with(cost_row(book)), False)

    def test_any_value(self):
        looks = Looks(example_book())
        for value in [*any_values(), row(1, 2, 3, 4), row(1, 2, 3, 4, 5, 6), list(row(1, 2, 3, 4, 5)), (1, 2, 3, 4, 5), ((1, 1),) * 4 + ((2, 2),)]:
            self.assertIs(looks.fits_with(value), False)
        self.assertIs(looks.fits_with(row(-1, 10 ** 20, "1/7", 4, 5)), True)
        hollow = Looks(Book(["a"], Kind("x", (1,)), Kind("y", (-1,))), looks=[((), (None,))])
        self.assertIs(hollow.fits_with(row(-1, 0)), False)
        self.assertIs(hollow.fits_with(row(-1, 1)), True)


class TestSure(LooksCase):
    def check(self, looks, weights, least):
        found = looks.sure(weights, least)
        self.assertEqual(self.same(looks).sure(least=least, weights=weights), found)
        word, paper = found
        if word == "sure":
            self.assertLessEqual(self.hold_weights(looks, paper, [-item for item in fracs(weights)]), -frac(least))
        else:
            self.assertEqual(word, "not")
            self.assertTrue(looks.fits_with(paper))
            self.assertLess(dot(weights, paper), frac(least))
        return word

    def least(self, looks, weights):
        """The least sum that is found by a search, None if there is none beyond a bound; sure at it and not above."""
        if self.check(looks, weights, (-10 ** 6, 1)) == "not":
            return None
        low, high = Fraction(-10 ** 6), Fraction(10 ** 6)
        if self.check(looks, weights, pair(high)) == "sure":
            return high
        while high - low > Fraction(1, 1000):
            middle = (low + high) / 2
            if self.check(looks, weights, pair(middle)) == "sure":
                low = middle
            else:
                high = middle
        return ((low + high) / 2).limit_denominator(20)

    def test_example(self):
        book = example_book()
        looks = Looks(book, looks=[(("ice", "brine"), (None, None, (5, 2)))], sayings=[(one_of(book, "ice", "brine"), (4, 1), None)])
        self.assertEqual(self.check(looks, one_of(book, "ice", "brine"), (4, 1)), "sure")
        self.assertEqual(self.check(looks, one_of(book, "ice", "brine"), (401, 100)), "not")
        # At the heat price 5/2 water costs at least 5 more than ice, which was seen at rest.
        self.assertEqual(self.check(looks, row(-1, 1, 0, 0, 0), (5, 1)), "sure")
        self.assertEqual(self.check(looks, row(-1, 1, 0, 0, 0), (501, 100)), "not")
        # 3 ice and 1 salt cost no less than 1 brine less the worth of its heat.
        self.assertEqual(self.check(looks, row(3, 0, 1, -1, 0), (-20, 1)), "sure")
        self.assertEqual(self.check(looks, row(3, 0, 1, -1, 0), (-1999, 100)), "not")
        self.assertEqual(self.check(looks, row(1, 0, 0, 0, 0), (-10 ** 9, 1)), "not")

    def test_at_the_least_sum_and_beside_it(self):
        rnd = random.Random(167)
        found = 0
        for book in books(168, 60):
            looks = random_looks(rnd, book, 2)
            if looks.fit()[0] == "fit":
                for weights, _, _ in [*looks.sayings, (fraction_list(rnd, len(book), -1, 2, 1), None, None)]:
                    least = self.least(looks, weights)
                    if least is not None and least < 10 ** 5:
                        found += 1
                        self.assertEqual(self.check(looks, weights, pair(least)), "sure")
                        self.assertEqual(self.check(looks, weights, pair(least + Fraction(1, 10 ** 9))), "not")
        self.assertGreater(found, 15)

    def test_nothing_known(self):
        looks = Looks(example_book())
        self.assertEqual(self.check(looks, row(0, 0, 0, 0, 0), (0, 1)), "sure")
        self.assertEqual(self.check(looks, row(0, 0, 0, 0, 0), (1, 9)), "not")
        self.assertEqual(self.check(looks, row(1, 0, 0, 0, 0), (-9, 1)), "not")
        self.assertEqual(self.check(looks, row(0, 0, 0, 0, -1), (10 ** 30, 1)), "not")

    def test_errors_in_their_order(self):
        book = example_book()
        clash = Looks(book, sayings=[(one_of(book, "ice"), (1, 1), (0, 1))])
        for value, at in [(None, -1), (row(1, 2, 3, 4), -1), (list(row(1, 2, 3, 4, 5)), -1), (((1, 1),) * 4 + (1,), 4), ((None,) + ((2, 2),) * 4, 0)]:
            self.assertEqual(self.raised(InvalidRow, clash.sure, value, None).at, at)
            self.assertEqual(self.raised(InvalidRow, Looks(book).book_with, value).at, at)
        for value in [*any_values(), 1, (2, 4)]:
            self.raised(InvalidFraction, clash.sure, row(1, 0, 0, 0, 0), value)
        weights = self.raised(Clash, clash.sure, row(1, 0, 0, 0, 0), (1, 1)).weights
        self.hold_clash(clash, weights)
        self.assertEqual(weights, clash.fit()[1])
        for value, at in WRONG_ROWS:
            self.assertEqual(self.raised(InvalidRow, Looks(book.part(["ice", "salt", "steam"])).sure, value, (1, 1)).at, at)


class TestBookWith(LooksCase):
    def test_costs_of_any_size(self):
        book = example_book()
        costs = row(1, -2, "1/1000", 10 ** 12, 0)
        found = Looks(book).book_with(costs)
        self.assertEqual((found.wares, found.names, cost_row(found)), (book.wares, book.names, costs))
        self.assertEqual([kind.numbers for kind in found.kinds], [kind.numbers for kind in book.kinds])
        self.assertEqual(Looks(book).book_with(costs=cost_row(book)), book)
        self.assertEqual(cost_row(book), row(0, 6, 0, 18, 46))

    def test_the_rows_of_a_fit_are_borne_there(self):
        book = example_book()
        looks = Looks(book, looks=[(("water", "steam"), NONE), (("salt",), (None, (3, 1), None))])
        _, costs, rows = looks.fit()
        self.assertEqual(summed(rows, row(1, 0), 3), fracs(rows[0]))
        for (lot, _), prices in zip(looks.looks, rows):
            held = together(looks.book_with(costs), lot)
            self.assertIsNotNone(held)
            self.assertTrue(all(frac(kind.cost) >= dot(prices, kind.as_row()) for kind in looks.book_with(costs).kinds))

    def test_wide_books(self):
        book = wide_book(("a.a",), [("x.x", (10 ** 10,), (1, 10 ** 10)), ("y.y", (-1,), (0, 1))])
        looks = Looks(book, looks=[(("y.y", "x.x"), (None,))])
        word, costs, rows = looks.fit()
        self.hold_fit(looks, costs, rows)
        self.assertEqual((word, looks.looks[0][0]), ("fit", ("x.x", "y.y")))
