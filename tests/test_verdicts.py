import random

from shutopen.books import Book, wide_book
from shutopen.ends import is_rest
from shutopen.errors import Clash, NotFilled, TooMany
from shutopen.fills import Fill
from shutopen.kinds import Kind
from shutopen.looks import Looks
from shutopen.reactions import Reaction, least_reactions
from shutopen.rests import end_of
from shutopen.verdicts import verdict
from shutopen.vessels import Vessel
from tests.helpers import any_values, example_book, example_vessel, fracs, pair, random_vessels, row, frac
from tests.test_looks import NONE, LooksCase, cost_row, one_of, random_looks


class TestVerdict(LooksCase):
    def check(self, looks, vessel, fill):
        found = verdict(looks, vessel, fill)
        self.assertIs(type(found), tuple)
        self.assertEqual(verdict(fill=Fill(fill.book, fill.parts), looks=self.same_looks(looks), vessel=Vessel(vessel.book, vessel.states)), found)
        if found[0] == "always":
            self.assertEqual(len(found), 2)
            self.hold_always(looks, vessel, fill, found[1])
        elif found[0] == "never":
            self.assertEqual(len(found), 2)
            noted = tuple([None if word == "shut" else price for word, price in vessel.states])
            self.hold_clash(looks.with_look((fill.lot, noted)), found[1])
        else:
            word, resting, other = found
            self.assertEqual(word, "sometimes")
            self.assertTrue(looks.fits_with(resting) and looks.fits_with(other))
            self.assertTrue(self.rests_with(looks, vessel, fill, resting))
            self.assertFalse(self.rests_with(looks, vessel, fill, other))
        return found[0]

    def same_looks(self, looks):
        if len(looks.looks) > 4 or len(looks.sayings) > 6 or len(looks.book) > 10:
            return looks
        return self.same(looks)

    def rests_with(self, looks, vessel, fill, costs):
        """Whether a fill is a rest of the vessel with other costs: it has the least burden."""
        there = vessel.with_book(looks.book_with(costs))
        end = end_of(there)
        if end[0] != "rests":
            return False
        own = Fill(there.book, fill.parts)
        return there.fits(own) and there.burden_of(own) == there.burden_of(end[1]) and is_rest(there, own, end[2])

    def hold_always(self, looks, vessel, fill, papers):
        self.assertIs(type(papers), list)
        expected = []
        for reaction in least_reactions(vessel):
            for told in (reaction, -reaction):
                if all(name in fill.lot for name in told.used()):
                    expected.append(told)
        self.assertEqual([reaction for reaction, _ in papers], expected)
        for reaction, weights in papers:
            self.assertIs(type(reaction), Reaction)
            outside = sum(frac(value) * number for (word, value), number in zip(vessel.states, reaction.contents_of()) if word == "open")
            self.assertLessEqual(self.hold_weights(looks, weights, [-part for part in reaction.parts]), -outside)

    def test_example(self):
        book, vessel = example_book(), example_vessel()
        rest = Fill.of(book, {"ice": (1, 1), "brine": (1, 1)})
        self.assertEqual(self.check(Looks(book), vessel, rest), "sometimes")
        known = Looks(book, looks=[(("ice", "brine"), (None, None, (5, 2)))])
        self.assertEqual(self.check(known, vessel, rest), "always")
        self.assertEqual(self.check(known, vessel, Fill.of(book, {"ice": (4, 1), "salt": (1, 1)})), "sometimes")
        sayings = [(one_of(book, kind.name), kind.cost, kind.cost) for kind in book.kinds]
        known = Looks(book, sayings=sayings)
        self.assertEqual(self.check(known, vessel, rest), "always")
        for amounts in [{"ice": (4, 1), "salt": (1, 1)}, {"water": (1, 1), "brine": (1, 1)}, {"salt": (1, 1), "steam": (4, 1)}]:
            self.assertEqual(self.check(known, vessel, Fill.of(book, amounts)), "never")

    def test_every_cost_known(self):
        # With all costs known a fill rests always or never, just as it does in the vessel.
        rnd = random.Random(171)
        words = {"always": 0, "never": 0}
        for vessel in random_vessels(172, 80):
            book = vessel.book
            sayings = [(one_of(book, kind.name), kind.cost, kind.cost) for kind in book.kinds[:6]]
            fill = Fill(book, [pair(rnd.randint(0, 2)) for _ in book.kinds])
            there = vessel.with_amounts(fill.contents)
            fills = [fill] if end_of(there)[0] != "rests" else [fill, end_of(there)[1]]
            for own in fills:
                word = self.check(Looks(book, sayings=sayings), there, own)
                self.assertEqual(word == "always", self.rests_with(Looks(book), there, own, cost_row(book)))
                words[word] += 1
        self.assertGreater(min(words.values()), 20)

    def test_random_looks(self):
        rnd = random.Random(173)
        words = {"always": 0, "sometimes": 0, "never": 0, "clash": 0}
        for vessel in random_vessels(174, 700):
            looks = random_looks(rnd, vessel.book, 2)
            there = vessel.with_amounts(Fill(vessel.book, [pair(rnd.randint(0, 1)) for _ in vessel.book.kinds]).contents)
            fill = end_of(there)[1]
            if looks.fit()[0] == "clash":
                self.hold_clash(looks, self.raised(Clash, verdict, looks, there, fill).weights)
                words["clash"] += 1
            else:
                words[self.check(looks, there, fill)] += 1
        self.assertGreater(min(words.values()), 8)

    def test_looks_at_the_very_fill(self):
        # What was seen at rest under the open prices rests always.
        for vessel in random_vessels(175, 60):
            end = end_of(vessel)
            if end[0] == "rests":
                noted = tuple([None if word == "shut" else price for word, price in vessel.states])
                looks = Looks(vessel.book, looks=[(end[1].lot, noted)])
                self.assertEqual(self.check(looks, vessel, end[1]), "always")

    def test_no_reactions(self):
        book = Book(["a"], Kind("x", (1,)))
        vessel = Vessel(book, [("shut", (2, 1))])
        self.assertEqual(verdict(Looks(book), vessel, Fill(book, row(2))), ("always", []))

    def test_what_runs_away(self):
        # x and y come to nothing: only costs of 0 and more together let anything rest.
        book = Book(["a"], Kind("x", (1,)), Kind("y", (-1,)))
        vessel = Vessel(book, [("shut", (0, 1))])
        empty = Fill(book, row(0, 0))
        self.assertEqual(self.check(Looks(book), vessel, empty), "sometimes")
        self.assertEqual(self.check(Looks(book, sayings=[(row(1, 1), (0, 1), None)]), vessel, empty), "always")
        self.assertEqual(self.check(Looks(book, sayings=[(row(1, 1), None, (-1, 5))]), vessel, empty), "never")

    def test_looks_beyond_the_limit(self):
        book, vessel = example_book(), example_vessel()
        looks = Looks(book, looks=[(("ice",), NONE)] * 4).with_look((("brine",), NONE))
        self.assertEqual(self.check(looks, vessel, end_of(vessel)[1]), "sometimes")

    def test_fills_that_do_not_fit(self):
        book, vessel = example_book(), example_vessel()
        clash = Looks(book, sayings=[(one_of(book, "ice"), (1, 1), (0, 1))])
        other = Book(["water", "salt", "heat"], *book.kinds[::-1])
        for value in [*any_values(), Fill.of(book, {}), Fill.of(book, {"ice": (3, 1), "salt": (1, 1)}), Fill(other, row(0, 0, 1, 0, 4))]:
            self.raised(NotFilled, verdict, clash, vessel, value)
            self.raised(NotFilled, verdict, Looks(book), vessel, value)

    def test_looks_that_clash(self):
        book, vessel = example_book(), example_vessel()
        clash = Looks(book, looks=[((), NONE)], sayings=[(one_of(book, "ice"), (1, 1), None), (one_of(book, "ice"), None, (1, 2))])
        weights = self.raised(Clash, verdict, clash, vessel, end_of(vessel)[1]).weights
        self.hold_clash(clash, weights)

    def test_twelve_kinds_and_thirteen(self):
        def book_of(many):
            return wide_book(("a", "b"), [(f"k{at}", (1 + at % 5, at % 3), (at, 1)) for at in range(many)])
        book = book_of(12)
        vessel = Vessel(book, [("shut", (6, 1)), ("shut", (3, 1))])
        fill = end_of(vessel)[1]
        self.assertEqual(self.check(Looks(book), vessel, fill), "sometimes")
        sayings = [(one_of(book, kind.name), kind.cost, kind.cost) for kind in book.kinds[:6]]
        looks = Looks(book, looks=[(fill.lot, (None, None))], sayings=sayings)
        self.assertEqual(self.check(looks, vessel, fill), "always")
        wide = book_of(13)
        vessel = Vessel(wide, vessel.states)
        fill = end_of(vessel)[1]
        clash = Looks(wide, sayings=[(one_of(wide, "k0"), (1, 1), (0, 1))])
        for looks in (Looks(wide), clash):
            self.assertEqual(self.raised(TooMany, verdict, looks, vessel, fill).most, 12)
            self.raised(NotFilled, verdict, looks, vessel, None)

    def test_own_costs_of_the_book_mean_nothing(self):
        book = example_book()
        other = Looks(book).book_with(row(5, 4, 3, 2, 1))
        one = example_vessel()
        looks = [(("ice", "brine"), (None, None, (5, 2)))]
        fill = Fill.of(book, {"ice": (1, 1), "brine": (1, 1)})
        moved = Vessel(other, one.states)
        self.assertEqual(self.check(Looks(other, looks=looks), moved, Fill(other, fill.parts)), "always")
        self.assertEqual([fracs(weights) for _, weights in verdict(Looks(other, looks=looks), moved, Fill(other, fill.parts))[1]],
                         [fracs(weights) for _, weights in verdict(Looks(book, looks=looks), one, fill)[1]])
