import random
from fractions import Fraction
from itertools import combinations
from math import gcd

from shutopen.books import Book, wide_book
from shutopen.errors import InvalidReaction, TooMany
from shutopen.fills import Fill
from shutopen.kinds import Kind
from shutopen.reactions import Reaction, is_change, is_least, least_reactions, reaction_cost
from shutopen.vessels import Vessel
from tests.helpers import (Case, all_shut, any_values, dot, example_book, example_vessel, frac, fraction_list, net_costs, own_rank,
                           random_vessels, row, shut_columns, solved, summed, wide_kinds)


def least_by_ranks(vessel):
    """The parts of all least reactions, by the ranks of all sets of kinds: a set that is not independent, while all its
    parts are, has just one.
    """
    columns, _ = shut_columns(vessel)
    found = {}
    for size in range(1, len(columns) + 1):
        for places in combinations(range(len(columns)), size):
            chosen = [columns[at] for at in places]
            if own_rank(chosen) == size - 1 and all(own_rank(part) == size - 1 for part in combinations(chosen, size - 1)):
                weights = [*solved(chosen[:-1], chosen[-1]), Fraction(-1)]
                if weights[0] > 0:
                    weights = [-weight for weight in weights]
                factor = 1
                for weight in weights:
                    factor = factor * weight.denominator // gcd(factor, weight.denominator)
                numbers = [int(weight * factor) for weight in weights]
                parts = [0] * len(columns)
                for at, number in zip(places, numbers):
                    parts[at] = number // gcd(*numbers)
                found[places] = tuple(parts)
    return [found[places] for places in sorted(found)]


class TestReaction(Case):
    def setUp(self):
        self.book = example_book()

    def test_attributes(self):
        reaction = Reaction(self.book, [-3, 0, -1, 1, 0])
        self.assertIs(reaction.book, self.book)
        self.assertEqual((reaction.parts, reaction.lot), ((-3, 0, -1, 1, 0), ("ice", "salt", "brine")))
        self.assertEqual(Reaction(parts=(-3, 0, -1, 1, 0), book=self.book), reaction)
        self.assertIs(type(reaction.parts), tuple)

    def test_common_divisors(self):
        for parts, expected in [([-6, 0, -2, 2, 0], (-3, 0, -1, 1, 0)), ([0, 0, 7, 0, 0], (0, 0, 1, 0, 0)),
                                ([0, -9, 0, 0, -6], (0, -3, 0, 0, -2)), ([4, 6, 9, 0, 0], (4, 6, 9, 0, 0)),
                                ([10 ** 40, -2 * 10 ** 40, 0, 0, 3 * 10 ** 50], (1, -2, 0, 0, 3 * 10 ** 10))]:
            self.assertEqual(Reaction(self.book, parts).parts, expected)

    def test_parts_of_any_size(self):
        parts = (10 ** 60 + 1, -10 ** 59, 0, 0, 1)
        reaction = Reaction(self.book, parts)
        self.assertEqual(reaction.parts, parts)
        self.assertEqual(str(reaction), f"{10 ** 59} water to {10 ** 60 + 1} ice, 1 steam")
        long = 10 ** 6000 + 1
        text = str(Reaction(self.book, [-long, 1, 0, 0, 0]))
        self.assertEqual(text, "1" + "0" * 5999 + "1 ice to 1 water")

    def test_lists_that_are_changed_behind_the_call(self):
        parts = [-1, 1, 0, 0, 0]
        reaction = Reaction(self.book, parts)
        parts[0] = 5
        parts.append(1)
        self.assertEqual(reaction.parts, (-1, 1, 0, 0, 0))
        self.assertEqual(parts, [5, 1, 0, 0, 0, 1])

    def test_wrong_parts(self):
        for value in [*any_values(), (0,) * 5, [0] * 5, (1,) * 4, (1,) * 6, [], (1, 2, 3, 4, True), (1, False, 0, 0, 0), (1, 0, 0, 0, None),
                      (1, 0, 0, 0, (1, 1)), row(1, 0, 0, 0, 0), "abcde", {0: 1, 1: 1, 2: 1, 3: 1, 4: 1}, (1, 0, 0, 0, 1.0)]:
            self.raised(InvalidReaction, Reaction, self.book, value)

    def test_a_book_with_one_kind(self):
        book = Book(["a"], Kind("air", (0,)))
        self.assertEqual(Reaction(book, [-4]).parts, (-1,))
        self.raised(InvalidReaction, Reaction, book, [])
        self.raised(InvalidReaction, Reaction, book, [True])
        self.raised(InvalidReaction, Reaction, book, -4)

    def test_used_and_made(self):
        reaction = Reaction(self.book, [1, -4, -1, 1, 0])
        self.assertEqual((reaction.used(), reaction.made()), (("water", "salt"), ("ice", "brine")))
        self.assertEqual((Reaction(self.book, [0, 0, 0, 0, 2]).used(), Reaction(self.book, [0, 0, 0, 0, 2]).made()), ((), ("steam",)))
        self.assertEqual((Reaction(self.book, [-1, 0, 0, 0, -2]).used(), Reaction(self.book, [-1, 0, 0, 0, -2]).made()),
                         (("ice", "steam"), ()))

    def test_as_row_and_contents(self):
        reaction = Reaction(self.book, [1, -4, -1, 1, 0])
        self.assertEqual(reaction.as_row(), row(1, -4, -1, 1, 0))
        self.assertEqual(reaction.contents_of(), (0, 0, 0))
        self.assertEqual(Reaction(self.book, [-1, 0, 0, 0, 1]).contents_of(), (0, 0, 12))
        self.assertEqual(Reaction(self.book, [0, 2, 0, 0, -3]).contents_of(), (-1, 0, -32))
        self.assertTrue(all(type(item) is int for item in reaction.contents_of()))

    def test_uses_only(self):
        reaction = Reaction(self.book, [1, -4, -1, 1, 0])
        for names, expected in [(["water", "salt"], True), (["water"], False), ([], False), (["ice", "brine", "steam"], False),
                                (["water", "salt", "steam"], True)]:
            fill = Fill.of(self.book, {name: (1, 9) for name in names})
            self.assertIs(reaction.uses_only(fill), expected)
            self.assertIs(reaction.uses_only(fill=fill), expected)
        self.assertIs(Reaction(self.book, [1, 0, 0, 0, 2]).uses_only(Fill.of(self.book, {})), True)

    def test_turned_about(self):
        reaction = Reaction(self.book, [1, -4, -1, 1, 0])
        turned = -reaction
        self.assertEqual((turned.parts, turned.lot, turned.book), ((-1, 4, 1, -1, 0), reaction.lot, self.book))
        self.assertEqual((turned.used(), turned.made()), (reaction.made(), reaction.used()))
        self.assertTrue(-turned == reaction and turned != reaction)
        self.assertEqual(reaction.parts, (1, -4, -1, 1, 0))

    def test_equality(self):
        reaction = Reaction(self.book, [-1, 1, 0, 0, 0])
        self.assertTrue(reaction == Reaction(example_book(), (-7, 7, 0, 0, 0)))
        self.assertFalse(reaction != Reaction(example_book(), (-7, 7, 0, 0, 0)))
        dearer = self.book.moved(row(0, 0, 1))
        for other in [Reaction(self.book, [1, -1, 0, 0, 0]), Reaction(self.book, [-1, 0, 1, 0, 0]), Reaction(dearer, [-1, 1, 0, 0, 0]),
                      reaction.parts, "1 ice to 1 water", None, self.book, reaction.as_row()]:
            self.assertFalse(reaction == other)
            self.assertTrue(reaction != other)

    def test_texts_and_len(self):
        for parts, text, many in [([-3, 0, -1, 1, 0], "3 ice, 1 salt to 1 brine", 3), ([3, 0, 1, -1, 0], "1 brine to 3 ice, 1 salt", 3),
                                  ([0, 0, 0, 0, 1], "nothing to 1 steam", 1), ([-2, -3, 0, 0, 0], "2 ice, 3 water to nothing", 2),
                                  ([1, -1, 2, -2, 3], "1 water, 2 brine to 1 ice, 2 salt, 3 steam", 5)]:
            reaction = Reaction(self.book, parts)
            self.assertEqual((str(reaction), repr(reaction), len(reaction)), (text, f"Reaction({many} kinds)", many))


class TestChanges(Case):
    def test_is_change(self):
        vessel = example_vessel()
        for value in [row(-1, 1, 0, 0, 0), row(-3, 0, -1, 1, 0), row("1/2", 0, 0, 0, "-1/2"), row(0, 0, 0, 0, 0)]:
            self.assertIs(is_change(vessel, value), True)
        for value in [row(-1, 0, 0, 0, 0), row(-3, 0, -1, 2, 0), row(1, 1, 1, 1, 1), row(0, 0, "1/9", 0, 0)]:
            self.assertIs(is_change(vessel, value), False)
        self.assertIs(is_change(example_vessel(("shut", (3, 1))), row(-1, 1, 0, 0, 0)), False)
        self.assertIs(is_change(vessel=example_vessel(("shut", (3, 1))), value=row(1, -4, -1, 1, 0)), True)
        open_vessel = Vessel(example_book(), [("open", (1, 1))] * 3)
        self.assertIs(is_change(open_vessel, row(5, "-1/7", 0, 0, 2)), True)

    def test_other_values_are_no_changes(self):
        vessel = example_vessel()
        for value in [*any_values(), row(0, 0, 0, 0), row(0, 0, 0, 0, 0, 0), list(row(0, 0, 0, 0, 0)), (0, 0, 0, 0, 0), (-1, 1, 0, 0, 0),
                      (*row(0, 0, 0, 0), (False, 1)), (*row(0, 0, 0, 0), (0, 2)), Reaction(example_book(), [-1, 1, 0, 0, 0])]:
            self.assertIs(is_change(vessel, value), False)

    def test_cost(self):
        vessel = example_vessel()
        self.assertEqual(reaction_cost(vessel, Reaction(example_book(), [-1, 1, 0, 0, 0])), (1, 1))
        self.assertEqual(reaction_cost(vessel, Reaction(example_book(), [-3, 0, -1, 1, 0])), (-2, 1))
        shut = example_vessel(("shut", (3, 1)))
        self.assertEqual(reaction_cost(reaction=Reaction(example_book(), [1, -4, -1, 1, 0]), vessel=shut), (-6, 1))
        rnd = random.Random(61)
        for vessel in random_vessels(61, 50):
            parts = [rnd.randint(-5, 5) for _ in vessel.book.kinds]
            if any(parts):
                reaction = Reaction(vessel.book, parts)
                self.assertEqual(frac(reaction_cost(vessel, reaction)), sum(a * b for a, b in zip(reaction.parts, net_costs(vessel))))

    def test_is_least(self):
        vessel = example_vessel()
        book = example_book()
        for parts, expected in [([-1, 1, 0, 0, 0], True), ([1, -1, 0, 0, 0], True), ([-3, 0, -1, 1, 0], True), ([-1, 2, 0, 0, -1], False),
                                ([-1, -2, -1, 1, 0], False), ([1, 0, 0, 0, 0], False), ([1, 1, 1, 1, 1], False),
                                ([-1, 2, 0, 0, 0], False), ([1, 1, 0, 0, 0], False), ([-3, 0, -1, 2, 0], False)]:
            self.assertIs(is_least(vessel, Reaction(book, parts)), expected)
        shut = example_vessel(("shut", (8, 1)))
        self.assertIs(is_least(shut, Reaction(book, [-1, 1, 0, 0, 0])), False)
        self.assertIs(is_least(reaction=Reaction(book, [5, -6, 0, 0, 1]), vessel=shut), True)
        open_vessel = Vessel(book, [("open", (1, 1))] * 3)
        self.assertIs(is_least(open_vessel, Reaction(book, [0, 0, 0, -4, 0])), True)
        self.assertIs(is_least(open_vessel, Reaction(book, [0, 0, 1, -4, 0])), False)

    def test_is_least_of_reactions_of_books_with_other_costs(self):
        vessel = example_vessel()
        other = example_book().moved(row("1/7", 3, -2))
        for parts, expected in [([-1, 1, 0, 0, 0], True), ([-3, 0, -1, 1, 0], True), ([-1, 2, 0, 0, -1], False)]:
            self.assertIs(is_least(vessel, Reaction(other, parts)), expected)
            self.assertIs(is_least(vessel.with_book(other), Reaction(example_book(), parts)), expected)


class TestLeastReactions(Case):
    def check(self, vessel):
        found = list(least_reactions(vessel))
        self.assertEqual([reaction.parts for reaction in found], least_by_ranks(vessel))
        for reaction in found:
            self.assertEqual(reaction.book, vessel.book)
            self.assertLess(reaction.parts[vessel.book.place(reaction.lot[0])], 0)
            self.assertTrue(is_change(vessel, reaction.as_row()) and is_least(vessel, reaction) and is_least(vessel, -reaction))
        return found

    def test_example(self):
        self.assertEqual([str(reaction) for reaction in self.check(example_vessel())],
                         ["1 ice to 1 water", "3 ice, 1 salt to 1 brine", "1 ice to 1 steam", "3 water, 1 salt to 1 brine",
                          "1 water to 1 steam", "1 salt, 3 steam to 1 brine"])
        found = self.check(example_vessel(("shut", (-7, 3))))
        self.assertEqual(len(found), 4)
        self.assertIn("5 ice, 1 steam to 6 water", [str(reaction) for reaction in found])

    def test_order_is_that_of_the_kinds(self):
        found = self.check(example_vessel())
        book = example_book()
        indexes = [tuple(book.place(name) for name in reaction.lot) for reaction in found]
        self.assertEqual(indexes, [(0, 1), (0, 2, 3), (0, 4), (1, 2, 3), (1, 4), (2, 3, 4)])

    def test_random_vessels(self):
        many = 0
        for vessel in random_vessels(62, 250):
            many += len(self.check(vessel))
        self.assertGreater(many, 600)

    def test_equal_kinds_multiples_and_zeros(self):
        book = wide_book(("a", "b"), [("x", (1, 2), (0, 1)), ("y", (1, 2), (3, 1)), ("o", (0, 0), (1, 1)), ("z", (-3, -6), (0, 1)),
                                      ("p", (0, 0), (1, 1)), ("w", (6, 9), (0, 1)), ("q", (4, 6), (1, 1))])
        found = self.check(all_shut(book))
        texts = [str(reaction) for reaction in found]
        self.assertEqual(texts[:2], ["1 x to 1 y", "3 x, 1 z to nothing"])
        self.assertEqual([text for text in texts if "to nothing" in text and "," not in text], ["1 o to nothing", "1 p to nothing"])
        self.assertIn("2 w to 3 q", texts)
        self.check(Vessel(book, [("shut", (1, 1)), ("open", (1, 1))]))

    def test_without_shut_wares_each_kind_is_one(self):
        vessel = Vessel(example_book(), [("open", (0, 1))] * 3)
        self.assertEqual([str(reaction) for reaction in self.check(vessel)],
                         ["1 ice to nothing", "1 water to nothing", "1 salt to nothing", "1 brine to nothing", "1 steam to nothing"])

    def test_independent_kinds_have_none(self):
        book = Book(["a", "b"], Kind("x", (1, 2)), Kind("y", (2, 1)))
        self.assertEqual(self.check(all_shut(book)), [])

    def test_only_which_wares_are_shut_counts(self):
        vessel = example_vessel()
        other = vessel.with_amounts(row(-3, "2/7", 0)).with_state("heat", ("open", (99, 1)))
        self.assertEqual(list(least_reactions(vessel=other)), list(least_reactions(vessel)))

    def test_twelve_kinds_and_thirteen(self):
        vessel = all_shut(wide_kinds(12))
        self.assertGreater(len(self.check(vessel)), 20)
        reactions = least_reactions(all_shut(wide_kinds(13)))
        self.assertEqual(self.raised(TooMany, next, reactions).most, 12)

    def test_is_a_generator(self):
        reactions = least_reactions(example_vessel())
        self.assertEqual(str(next(reactions)), "1 ice to 1 water")
        self.assertEqual(len(list(reactions)), 5)

    def test_sums_of_least_reactions_are_changes(self):
        rnd = random.Random(63)
        for vessel in random_vessels(64, 30):
            found = list(least_reactions(vessel))
            if found:
                weights = fraction_list(rnd, len(found))
                total = [sum(frac(weight) * reaction.parts[at] for weight, reaction in zip(weights, found)) for at in range(len(vessel.book))]
                self.assertIs(is_change(vessel, row(*total)), True)
                self.assertEqual(dot(row(*total), row(*net_costs(vessel))),
                                 sum(frac(weight) * frac(reaction_cost(vessel, reaction)) for weight, reaction in zip(weights, found)))
                columns, _ = shut_columns(vessel)
                self.assertEqual(summed(columns, row(*total), len(columns[0])), [0] * len(columns[0]))
