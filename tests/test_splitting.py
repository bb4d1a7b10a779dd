import random
from fractions import Fraction

from shutopen.books import Book, wide_book
from shutopen.errors import InvalidReaction
from shutopen.kinds import Kind
from shutopen.reactions import Reaction, is_least, least_reactions
from shutopen.splitting import split
from shutopen.vessels import Vessel
from tests.helpers import (Case, all_shut, any_values, example_book, example_vessel, frac, fraction_list, fracs, random_vessels, row,
                           wide_kinds)


class SplitCase(Case):
    def hold(self, vessel, change, pairs):
        """Holds pairs against the words of [13]."""
        self.assertIs(type(pairs), list)
        total = [Fraction(0)] * len(change)
        for pair in pairs:
            self.assertIs(type(pair), tuple)
            weight, reaction = pair
            self.assertGreater(frac(weight), 0)
            self.assertIs(type(reaction), Reaction)
            self.assertEqual(reaction.book, vessel.book)
            self.assertTrue(is_least(vessel, reaction))
            for at, part in enumerate(reaction.parts):
                self.assertTrue(part == 0 or part * frac(change[at]) > 0)
                total[at] += frac(weight) * part
        self.assertEqual(total, fracs(change))
        self.assertLessEqual(len(pairs), sum(item != (0, 1) for item in change))

    def check(self, vessel, change):
        pairs = split(vessel, change)
        self.hold(vessel, change, pairs)
        self.assertEqual(split(change=change, vessel=Vessel(vessel.book, vessel.states)), pairs)
        return pairs


class TestSplit(SplitCase):
    def test_example(self):
        pairs = self.check(example_vessel(), row(1, 0, -1, 1, -4))
        self.assertEqual(sorted((weight, str(reaction)) for weight, reaction in pairs),
                         [((1, 1), "1 salt, 3 steam to 1 brine"), ((1, 1), "1 steam to 1 ice")])
        pairs = self.check(example_vessel(), row("-1/2", "1/2", 0, 0, 0))
        self.assertEqual([(weight, str(reaction)) for weight, reaction in pairs], [((1, 2), "1 ice to 1 water")])
        pairs = self.check(example_vessel(), row("3/2", "-3/2", 0, 0, 0))
        self.assertEqual([(weight, str(reaction)) for weight, reaction in pairs], [((3, 2), "1 water to 1 ice")])

    def test_zeros(self):
        self.assertEqual(split(example_vessel(), row(0, 0, 0, 0, 0)), [])
        self.assertEqual(split(all_shut(Book(["a"], Kind("x", (0,)))), row(0)), [])

    def test_random_changes(self):
        rnd = random.Random(65)
        several = 0
        for vessel in random_vessels(66, 400):
            reactions = list(least_reactions(vessel))
            total = [Fraction(0)] * len(vessel.book)
            for reaction in reactions:
                weight = frac(fraction_list(rnd, 1)[0]) if rnd.random() < 0.6 else 0
                total = [a + weight * part for a, part in zip(total, reaction.parts)]
            several += len(self.check(vessel, row(*total))) > 1
        self.assertGreater(several, 100)

    def test_without_shut_wares_and_kinds_of_zeros(self):
        vessel = Vessel(example_book(), [("open", (0, 1))] * 3)
        pairs = self.check(vessel, row(1, "-2/3", 0, 5, "-1/7"))
        self.assertEqual(sorted(str(reaction) for _, reaction in pairs),
                         ["1 steam to nothing", "1 water to nothing", "nothing to 1 brine", "nothing to 1 ice"])
        book = Book(["a"], Kind("x", (0,)), Kind("y", (2,)), Kind("z", (-3,)))
        self.assertEqual([str(reaction) for _, reaction in self.check(all_shut(book), row(0, "1/3", "2/9"))], ["nothing to 3 y, 2 z"])
        self.check(all_shut(book), row("-7/5", "-1/3", "-2/9"))

    def test_values_that_are_no_change(self):
        vessel = example_vessel()
        for value in [*any_values(), row(1, 0, 0, 0, 0), row(-1, 1, 0, 0), row(-1, 1, 0, 0, 0, 0), list(row(-1, 1, 0, 0, 0)),
                      (-1, 1, 0, 0, 0), (*row(-1, 1, 0, 0), (0, 2)), Reaction(example_book(), [-1, 1, 0, 0, 0])]:
            self.raised(InvalidReaction, split, vessel, value)
        self.raised(InvalidReaction, split, example_vessel(("shut", (1, 1))), row(-1, 1, 0, 0, 0))

    def test_wide_book(self):
        book = wide_kinds(24, "abcd")
        vessel = all_shut(book)
        rnd = random.Random(67)
        change = [Fraction(0)] * 24
        for first in range(0, 20, 2):
            part = wide_book(book.wares, [(kind.name, kind.numbers, kind.cost) for kind in book.kinds[first:first + 5]])
            for reaction in least_reactions(all_shut(part)):
                weight = frac(fraction_list(rnd, 1)[0])
                for at, number in enumerate(reaction.parts):
                    change[first + at] += weight * number
        self.assertGreater(len(self.check(vessel, row(*change))), 5)
        self.check(vessel, row(*[item * 10 ** 40 / 7 for item in change]))
