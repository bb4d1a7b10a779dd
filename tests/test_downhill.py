import random
from itertools import combinations

from shutopen.books import Book
from shutopen.downhill import apart, downhill
from shutopen.errors import InvalidLot, NotFilled, TooMany
from shutopen.fills import Fill
from shutopen.kinds import Kind
from shutopen.lots import together
from shutopen.reactions import Reaction, least_reactions, reaction_cost
from shutopen.rests import end_of, rest_of
from shutopen.vessels import Vessel
from tests.helpers import (Case, all_shut, any_values, basic_mixtures, example_book, example_vessel, frac, pair, random_vessels, row,
                           shut_columns, wide_kinds)

WRONG_LOTS = [(None, -1), (True, -1), ("ice", -1), (7, -1), ({"ice": 1}, -1), (["iced"], 0), (["ice", "ice"], 1), (["ice", "salt", "ice"], 2),
              (["ice", None, "fog"], 1), ((("ice",),), 0), (["ice", ["salt"]], 1), (["ice", "salt", 3], 2), ([True], 0)]


def first_by_hand(vessel, names):
    """The first reaction by which one goes downhill, by going through all of them."""
    for reaction in least_reactions(vessel):
        for told in (reaction, -reaction):
            if frac(reaction_cost(vessel, told)) < 0 and set(told.used()) <= set(names):
                return told
    return None


class TestDownhill(Case):
    def check(self, vessel, fill):
        found = downhill(vessel, fill)
        self.assertEqual(found, first_by_hand(vessel, fill.lot))
        self.assertEqual(downhill(fill=fill, vessel=Vessel(vessel.book, vessel.states)), found)
        if found is not None:
            self.assertIs(type(found), Reaction)
            self.assertTrue(found.uses_only(fill))
        return found

    def test_example(self):
        vessel = example_vessel()
        for amounts, text in [({"ice": (1, 1), "brine": (1, 1)}, "None"), ({"ice": (4, 1), "salt": (1, 1)}, "3 ice, 1 salt to 1 brine"),
                              ({"water": (4, 1), "salt": (1, 1)}, "1 water to 1 ice"),
                              ({"salt": (1, 1), "steam": (4, 1)}, "1 steam to 1 ice"), ({"brine": (1, 1), "steam": (1, 1)}, "1 steam to 1 ice")]:
            self.assertEqual(str(self.check(vessel, Fill.of(example_book(), amounts))), text)

    def test_none_exactly_at_a_rest(self):
        rests = others = 0
        for vessel in random_vessels(72, 250):
            word = end_of(vessel)[0]
            fills = basic_mixtures(*shut_columns(vessel))[:6]
            if len(fills) > 1:
                fills.append([(a + b) / 2 for a, b in zip(*fills[:2])])
            for parts in fills:
                fill = Fill(vessel.book, [pair(part) for part in parts])
                is_rest = word == "rests" and vessel.burden_of(fill) == rest_of(vessel).burden
                self.assertIs(self.check(vessel, fill) is None, is_rest)
                rests += is_rest
                others += not is_rest
        self.assertGreater(min(rests, others), 50)

    def test_vessels_that_run_away(self):
        book = Book(["a"], Kind("x", (1,), cost=(-1, 1)), Kind("y", (-1,)), Kind("air", (0,), cost=(-1, 2)))
        vessel = Vessel(book, [("shut", (2, 1))])
        self.assertEqual(str(self.check(vessel, Fill(book, row(2, 0, 0)))), "nothing to 1 x, 1 y")
        self.assertEqual(str(self.check(vessel.with_book(book.moved(row(1))), Fill(book.moved(row(1)), row(2, 0, 0)))), "nothing to 1 x, 1 y")
        free = book.with_kind(Kind("z", (1,), cost=(-1, 1))).without("y")
        self.assertEqual(str(self.check(Vessel(free, vessel.states), Fill(free, row(2, 0, 0)))), "nothing to 1 air")

    def test_values_that_are_no_fills_that_fit(self):
        vessel = example_vessel()
        book = example_book()
        for value in [*any_values(), Fill.of(book, {}), Fill.of(book, {"ice": (4, 1)}), row(1, 0, 0, 1, 0), rest_of(vessel)]:
            self.raised(NotFilled, downhill, vessel, value)

    def test_more_than_twelve_kinds(self):
        book = wide_kinds(13)
        vessel = all_shut(book)
        self.assertEqual(self.raised(TooMany, downhill, vessel, Fill.of(book, {})).most, 12)
        self.raised(NotFilled, downhill, vessel, Fill.of(book, {"k1": (1, 1)}))
        self.raised(NotFilled, downhill, vessel, None)
        self.assertIsNone(self.check(all_shut(wide_kinds(12)), Fill.of(wide_kinds(12), {})))


class TestApart(Case):
    def check(self, book, lot):
        found = apart(book, lot)
        self.assertEqual(found, first_by_hand(all_shut(book), lot))
        self.assertEqual(apart(lot=tuple(reversed(lot)), book=Book(book.wares, *book.kinds)), found)
        self.assertIs(found is None, together(book, lot) is not None)
        if found is not None:
            self.assertEqual((found.book, found.contents_of()), (book, (0,) * len(book.wares)))
        return found

    def test_example(self):
        book = example_book()
        self.assertEqual(str(self.check(book, ["water", "salt"])), "4 water, 1 salt to 1 ice, 1 brine")
        self.assertEqual(str(self.check(book, ["ice", "steam"])), "5 ice, 1 steam to 6 water")
        for lot in [[], ["ice"], ["ice", "salt", "brine"], ["steam", "brine"], ["brine", "water", "steam"]]:
            self.assertIsNone(self.check(book, lot))
        self.assertEqual(reaction_cost(all_shut(book), apart(book, ["water", "salt"])), (-6, 1))

    def test_all_lots_of_random_books(self):
        rests = others = 0
        for vessel in random_vessels(73, 60):
            for size in range(len(vessel.book) + 1):
                for lot in combinations(vessel.book.names, size):
                    found = self.check(vessel.book, list(lot))
                    rests += found is None
                    others += found is not None
        self.assertGreater(min(rests, others), 200)

    def test_hollow_books(self):
        book = Book(["a"], Kind("x", (1,), cost=(-1, 1)), Kind("y", (-1,)))
        for lot in [[], ["x"], ["y", "x"]]:
            self.assertEqual(str(self.check(book, lot)), "nothing to 1 x, 1 y")

    def test_random_order_of_names(self):
        rnd = random.Random(74)
        names = list(example_book().names)
        for _ in range(30):
            rnd.shuffle(names)
            self.check(example_book(), names[:rnd.randint(0, 5)])

    def test_wrong_lots(self):
        for value, at in WRONG_LOTS:
            self.assertEqual(self.raised(InvalidLot, apart, example_book(), value).at, at)
        self.assertEqual(self.raised(InvalidLot, apart, wide_kinds(13), ["k0", "no"]).at, 1)

    def test_more_than_twelve_kinds(self):
        for lot in [[], ["k1"], ["k1", "k2"]]:
            self.assertEqual(self.raised(TooMany, apart, wide_kinds(13), lot).most, 12)
            self.check_wide(lot)

    def check_wide(self, lot):
        book = wide_kinds(12)
        self.assertEqual(apart(book, lot), first_by_hand(all_shut(book), lot))
