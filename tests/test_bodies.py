import random
from fractions import Fraction
from math import gcd

from shutopen.bodies import alike, joined, key, parting
from shutopen.books import Book, wide_book
from shutopen.errors import DifferentWares, DuplicateName
from shutopen.kinds import Kind
from shutopen.lacks import is_borne
from shutopen.needless import trimmed
from shutopen.rests import end_of, hollow_paper
from shutopen.vessels import Vessel
from tests.helpers import Case, dot, example_book, frac, fraction_list, fracs, lots_by_sets, pair, random_vessels, row, wide_kinds
from tests.test_needless import is_needless, mixed_books


def whole(items):
    """The whole numbers without a common divisor that are a positive multiple of Python's fractions."""
    factor = 1
    for item in items:
        factor *= Fraction(item).denominator
    numbers = [int(item * factor) for item in items]
    common = gcd(*numbers) or 1
    return tuple([number // common for number in numbers])


def table_by_hand(rows):
    """The reduced table of rows of Python's fractions, by plain elimination."""
    left = [list(line) for line in rows]
    found = []
    for place in range(len(left[0]) if left else 0):
        step = next((line for line in left if line[place] != 0), None)
        if step is not None:
            left.remove(step)
            step = [item / step[place] for item in step]
            left = [[a - line[place] * b for a, b in zip(line, step)] for line in left]
            found = [[a - line[place] * b for a, b in zip(line, step)] for line in found] + [step]
    return found


def key_by_hand(book):
    """The key of a book by the words of [23], with the touched lots from a look at each set of kinds."""
    lots = lots_by_sets(book.names, [kind.as_row() for kind in book.kinds], [kind.cost for kind in book.kinds])
    if not lots:
        return "hollow"
    conditions = {kind.name: [Fraction(number) for number in kind.numbers] + [frac(kind.cost)] for kind in book.kinds}
    kept = table_by_hand([conditions[name] for name in book.names if all(name in lot for lot in lots)])
    sides = set()
    for side in conditions.values():
        for line in kept:
            place = next(at for at, item in enumerate(line) if item != 0)
            side = [a - side[place] * b for a, b in zip(side, line)]
        if any(side[:-1]):
            sides.add(whole(side))
    kinds = {side: wide_book(book.wares, [("x", side[:-1], (side[-1], 1))]).kinds[0] for side in sides}
    # Equations are two conditions that are turned about.
    both = [whole(line) for line in kept] + [whole([-item for item in line]) for line in kept]
    fixed = [wide_book(book.wares, [("x", line[:-1], (line[-1], 1))]).kinds[0] for line in both]
    needed = [side for side in sides if not is_needless([kinds[other] for other in sides if other != side] + fixed, kinds[side])]
    return tuple([whole(line) for line in kept]), tuple(sorted(needed))


def wide(wares, kinds):
    return wide_book(wares, [(f"k{at}", tuple(numbers), pair(cost)) for at, (numbers, cost) in enumerate(kinds)])


def kinds_of(book):
    return [(kind.numbers, frac(kind.cost)) for kind in book.kinds]


def remade(book, rnd):
    """A book with the same body: kinds behind that follow from others, multiples, and another order."""
    kinds = kinds_of(book)
    for _ in range(rnd.randint(0, 2)):
        weights = [rnd.randint(0, 2) for _ in kinds]
        numbers = [sum(weight * own[at] for weight, (own, _) in zip(weights, kinds)) for at in range(len(book.wares))]
        kinds.append((numbers, sum(weight * cost for weight, (_, cost) in zip(weights, kinds)) + rnd.choice([0, 0, 1, Fraction(1, 3)])))
    if rnd.random() < 0.5:
        at = rnd.randrange(len(kinds))
        numbers, cost = kinds[at]
        times = rnd.randint(2, 3)
        kinds[at] = ([times * number for number in numbers], times * cost)
    rnd.shuffle(kinds)
    return wide(book.wares, kinds)


def flat_books(seed, many):
    """Random books, half of them with a kind that turns others about, so that all borne price rows touch these."""
    rnd = random.Random(seed)
    for book in mixed_books(seed, many):
        if rnd.random() < 0.5:
            kinds = kinds_of(book)
            chosen = rnd.sample(kinds, min(len(kinds), rnd.randint(1, 2)))
            numbers = [-sum(own[at] for own, _ in chosen) for at in range(len(book.wares))]
            kinds.insert(rnd.randint(0, len(kinds)), (numbers, -sum(cost for _, cost in chosen)))
            book = wide(book.wares, kinds)
        yield book


class BodyCase(Case):
    def hold_parting(self, one, other, found):
        """Holds what parting found against both books."""
        if found is None:
            return
        side, prices = found
        self.assertIn(side, (0, 1))
        borne, not_borne = (one, other) if side == 0 else (other, one)
        self.assertEqual(len(fracs(prices)), len(one.wares))
        self.assertTrue(all(frac(kind.cost) >= dot(prices, kind.as_row()) for kind in borne.kinds))
        self.assertTrue(any(frac(kind.cost) < dot(prices, kind.as_row()) for kind in not_borne.kinds))

    def check_pair(self, one, other):
        """Holds what is said of two books against their keys."""
        same = key_by_hand(one) == key_by_hand(other)
        self.assertEqual(key(one) == key(other), same)
        self.assertIs(alike(one, other), same)
        found = parting(one, other)
        self.assertEqual(found is None, same)
        self.hold_parting(one, other, found)
        self.assertEqual(parting(other=other, one=Book(one.wares, *one.kinds) if len(one) <= 10 else one), found)
        self.assertIs(alike(other=one, one=other), same)
        return same


class TestKey(BodyCase):
    def check(self, book):
        found = key(book)
        self.assertEqual(found, key_by_hand(book))
        self.assertEqual(key(book=wide(book.wares, kinds_of(book))), found)
        if found != "hollow":
            self.assertIs(type(found), tuple)
            for part in found:
                self.assertIs(type(part), tuple)
                self.assertTrue(all(type(line) is tuple and len(line) == len(book.wares) + 1 for line in part))
                self.assertTrue(all(type(number) is int for line in part for number in line))
        return found

    def test_example(self):
        self.assertEqual(self.check(example_book()), ((), ((0, 1, 0, 0), (1, 0, 0, 0), (1, 0, 2, 6), (1, 0, 12, 46), (3, 1, 8, 18))))
        book = Book(["water"], Kind("ice", (1,)), Kind("gem", (2,), cost=(3, 1)))
        self.assertEqual(self.check(book), ((), ((1, 0),)))

    def test_random_books(self):
        count = {"hollow": 0, "kept": 0, "sides": 0, "none": 0}
        for book in flat_books(141, 250):
            found = self.check(book)
            if found == "hollow":
                count["hollow"] += 1
            else:
                count["kept"] += len(found[0]) > 0
                count["sides"] += len(found[0]) > 0 and len(found[1]) > 0
                count["none"] += len(found[1]) < len(book) - len(found[0])
        self.assertGreater(min(count.values()), 5)

    def test_kept_conditions(self):
        book = Book(["a", "b"], Kind("x", (2, 4), cost=(3, 1)), Kind("y", (-2, -4), cost=(-3, 1)), Kind("z", (1, 0), cost=(5, 1)))
        self.assertEqual(self.check(book), (((2, 4, 3),), ((0, -4, 7),)))
        point = Book(["a", "b"], Kind("x", (1, 0)), Kind("y", (-1, 1), cost=(1, 2)), Kind("z", (0, -1), cost=(-1, 2)))
        self.assertEqual(self.check(point), (((1, 0, 0), (0, 2, 1)), ()))
        # No two of three kinds make the third one turned about, but together they leave no room.
        book = Book(["a", "b"], Kind("x", (1, 1)), Kind("y", (-1, 1)), Kind("z", (0, -1)), Kind("u", (3, 2), cost=(5, 1)))
        self.assertEqual(self.check(book), (((1, 0, 0), (0, 1, 0)), ()))

    def test_whole_numbers_without_a_common_divisor(self):
        self.assertEqual(self.check(Book(["a"], Kind("x", (4,), cost=(6, 5)))), ((), ((10, 3),)))
        self.assertEqual(self.check(Book(["a"], Kind("x", (-4,), cost=(6, 1)))), ((), ((-2, 3),)))
        self.assertEqual(self.check(Book(["a", "b"], Kind("x", (6, -9), cost=(0, 1)))), ((), ((2, -3, 0),)))

    def test_equal_conditions_and_air(self):
        book = Book(["a"], Kind("x", (1,), cost=(1, 1)), Kind("y", (2,), cost=(2, 1)), Kind("air", (0,)), Kind("smoke", (0,), cost=(7, 1)))
        self.assertEqual(self.check(book), ((), ((1, 1),)))
        self.assertEqual(self.check(Book(["a", "b"], Kind("air", (0, 0)))), ((), ()))
        self.assertEqual(self.check(Book(["a", "b"], Kind("air", (0, 0), cost=(1, 2)))), ((), ()))
        self.assertEqual(self.check(Book(["a"], Kind("air", (0,), cost=(-1, 2)))), "hollow")

    def test_ascending(self):
        book = Book(["a", "b"], *[Kind(name, numbers, cost=(9, 1)) for name, numbers in
                                  zip("pqrstuvw", [(1, 0), (0, 1), (-1, 0), (0, -1), (1, 1), (-1, 1), (1, -1), (-1, -1)])])
        self.assertEqual(self.check(book)[1], ((-1, -1, 9), (-1, 1, 9), (1, -1, 9), (1, 1, 9)))
        far = Book(["a"], Kind("x", (2,), cost=(7, 1)), Kind("y", (-10,), cost=(3, 1)))
        self.assertEqual(self.check(far)[1], ((-10, 3), (2, 7)))

    def test_changed_books_with_the_same_key(self):
        rnd = random.Random(142)
        changed = 0
        for book in flat_books(143, 120):
            other = remade(book, rnd)
            self.assertEqual(key(other), key(book))
            changed += key(book) != "hollow" and kinds_of(other) != kinds_of(book)
        self.assertGreater(changed, 50)

    def test_multiples_of_kept_conditions(self):
        rnd = random.Random(144)
        many = 0
        for book in flat_books(145, 200):
            found = key(book)
            if found != "hollow" and found[0]:
                kinds = kinds_of(book)
                at = rnd.randrange(len(kinds))
                line, times = rnd.choice(found[0]), rnd.randint(-2, 2)
                # The kept condition and the one turned about are there as kinds, too.
                other = wide(book.wares, [*[(line[:-1], line[-1]) for line in found[0]],
                                          *[([-item for item in line[:-1]], -line[-1]) for line in found[0]], *kinds[:at],
                                          ([a + times * b for a, b in zip(kinds[at][0], line)], kinds[at][1] + times * line[-1]), *kinds[at + 1:]])
                self.assertEqual(key(other), found)
                many += 1
        self.assertGreater(many, 20)

    def test_more_than_ten_kinds_and_long_numbers(self):
        book = wide_kinds(14)
        self.assertEqual(key(wide(book.wares, kinds_of(book)[::-1])), key(book))
        self.assertEqual(key(trimmed(book)), key(book))
        long = wide_book(("a.a",), [("x", (3 * 10 ** 20,), (10 ** 20, 7)), ("y", (-1,), (10 ** 30, 1))])
        self.assertEqual(key(long), ((), ((-1, 10 ** 30), (21, 1))))


class TestAlikeAndParting(BodyCase):
    def test_example(self):
        book = example_book()
        self.assertTrue(self.check_pair(book, book.with_kind(Kind("slush", (2, 0, 2), cost=(6, 1)))))
        self.assertFalse(self.check_pair(book, book.with_kind(Kind("slush", (2, 0, 2), cost=(5, 1)))))
        self.assertEqual(parting(book, book.without("steam"))[0], 1)
        self.assertEqual(parting(book.without("steam"), book)[0], 0)

    def test_random_books(self):
        rnd = random.Random(146)
        same = sides = 0
        before = None
        for book in mixed_books(147, 150):
            same += self.check_pair(book, remade(book, rnd))
            if before is not None and before.wares == book.wares:
                same += self.check_pair(before, book)
            smaller = book.without(rnd.choice(book.names)) if len(book) > 1 else book
            same += self.check_pair(book, smaller)
            found = parting(smaller, book)
            self.assertTrue(found is None or found[0] == 0)
            sides += found is not None
            before = book
        self.assertGreater(min(same, sides), 40)

    def test_hollow_books(self):
        hollow = Book(["a"], Kind("x", (1,), cost=(-1, 1)), Kind("y", (-1,)))
        other = Book(["a"], Kind("air", (0,), cost=(-1, 1)))
        full = Book(["a"], Kind("x", (1,), cost=(-1, 1)))
        self.assertTrue(self.check_pair(hollow, other))
        self.assertFalse(self.check_pair(hollow, full))
        self.assertEqual(parting(hollow, full)[0], 1)
        self.assertEqual(parting(full, hollow)[0], 0)

    def test_books_that_differ_in_a_direction_without_end(self):
        one = Book(["a", "b"], Kind("x", (1, 0), cost=(5, 1)))
        other = Book(["a", "b"], Kind("x", (1, 0), cost=(5, 1)), Kind("y", (0, 3), cost=(9999, 1)))
        self.assertFalse(self.check_pair(one, other))
        self.assertFalse(self.check_pair(other, one))
        low = Book(["a", "b"], Kind("x", (1, 0), cost=(5, 1)), Kind("y", (0, 3), cost=(-9999, 1)))
        self.assertFalse(self.check_pair(one, low))
        self.assertFalse(self.check_pair(low, other))

    def test_alike_books_rest_alike(self):
        rnd = random.Random(148)
        for vessel in random_vessels(149, 100):
            book = remade(vessel.book, rnd)
            other = vessel.with_book(book)
            one_end, other_end = end_of(vessel), end_of(other)
            if key(book) != "hollow":
                self.assertEqual(one_end[0], other_end[0])
            if one_end[0] == "rests":
                self.assertEqual(vessel.burden_of(one_end[1]), other.burden_of(other_end[1]))

    def test_other_wares(self):
        one = Book(["a", "b"], Kind("x", (1, 0)))
        for other in (Book(["b", "a"], Kind("x", (1, 0))), Book(["a"], Kind("x", (1,))), Book(["a", "b", "c"], Kind("x", (1, 0, 0)))):
            self.assertNotEqual(other.wares, one.wares)
            for function in (alike, parting, joined):
                self.raised(DifferentWares, function, one, other)
                self.raised(DifferentWares, function, other, one)


class TestJoined(BodyCase):
    def test_kinds_behind_each_other(self):
        one, other = example_book().part(["ice", "water"]), example_book().part(["steam", "brine"])
        found = joined(one, other)
        self.assertEqual(found, example_book().part(["ice", "water", "brine", "steam"]))
        self.assertEqual(joined(other=one, one=other).names, ("brine", "steam", "ice", "water"))
        self.assertEqual((len(one), len(other)), (2, 2))

    def test_borne_in_both(self):
        rnd = random.Random(150)
        count = [0, 0]
        for vessel in random_vessels(151, 80):
            one = vessel.book
            kinds = [Kind(f"z{kind.name}"[:2].replace("0", "a"), kind.numbers[::-1], cost=pair(rnd.randint(0, 3))) for kind in one.kinds]
            other = Book(one.wares, *kinds)
            both = joined(one, other)
            for _ in range(5):
                prices = fraction_list(rnd, len(one.wares), -3, 1, 2)
                count[is_borne(both, prices)] += 1
                self.assertEqual(is_borne(both, prices), is_borne(one, prices) and is_borne(other, prices))
        self.assertGreater(min(count), 20)

    def test_more_than_ten_kinds(self):
        one = Book(["a"], *[Kind(f"x{letter}", (1,)) for letter in "abcdefghij"])
        other = Book(["a"], *[Kind(f"y{letter}", (2,)) for letter in "abcdefghij"])
        found = joined(one, other)
        self.assertEqual((len(found), found.kinds), (20, one.kinds + other.kinds))
        self.assertEqual(len(joined(found, wide_book(("a",), [("z.z", (7,), (10 ** 9, 1))]))), 21)

    def test_names_that_both_have(self):
        one = example_book()
        for names, first in [(["steam", "salt"], "salt"), (["ice"], "ice")]:
            other = one.part(names).with_kind(Kind("fog", (1, 1, 1)))
            self.assertEqual(self.raised(DuplicateName, joined, one, other).name, first)
        turned = Book(one.wares, Kind("fog", (0, 0, 0)), *one.kinds[::-1])
        self.assertEqual(self.raised(DuplicateName, joined, one, turned).name, "steam")
        self.assertEqual(self.raised(DuplicateName, joined, one, one).name, "ice")

    def test_other_wares_go_ahead_of_names(self):
        self.raised(DifferentWares, joined, example_book(), Book(["a"], Kind("ice", (1,))))

    def test_hollow_only_together(self):
        one, other = Book(["a"], Kind("x", (1,), cost=(-1, 1))), Book(["a"], Kind("y", (-1,)))
        self.assertEqual([key(one), key(other), key(joined(one, other))], [((), ((1, -1),)), ((), ((-1, 0),)), "hollow"])
        self.assertIsNotNone(hollow_paper(joined(one, other)))
