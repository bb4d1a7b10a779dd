import random
from fractions import Fraction
from itertools import combinations

from shutopen.books import Book, wide_book
from shutopen.errors import InvalidWindow, NotOpen, OutsideWindow, TooMany, Unfillable, UnknownWare
from shutopen.fields import Field, Fields
from shutopen.kinds import Kind
from shutopen.lacks import touches
from shutopen.reactions import least_reactions, reaction_cost
from shutopen.rests import end_of, rest_of
from shutopen.vessels import Vessel
from tests.helpers import (Case, all_shut, any_values, dot, example_book, frac, fracs, pair, random_vessels, row, wide_kinds)

WINDOW = row(-5, 5, -5, 8)
DOUBLE_WINDOWS = [value for value in any_values()] + [
    (), row(0, 1), row(0, 1, 0), row(0, 1, 0, 1, 0), list(row(0, 1, 0, 1)), row(1, 1, 0, 1), row(0, 1, 1, 1), row(2, 1, 0, 1),
    row(0, 1, 0, -1), row("1/2", "1/3", 0, 1), (0, 1, 0, 1), ((0, 1), (1, 1), (0, 1), 1), ((0, 1), (1, 1), (0, 1), (2, 2)),
    ((0, 1), (True, 1), (0, 1), (1, 1)), ((0, 1), (1, 0), (0, 1), (1, 1)), (row(0, 1), row(0, 1)), (None,) * 4]


def example(amount=4):
    """The example with water shut and the other two wares open."""
    return Vessel(example_book(), [("shut", pair(amount)), ("open", (0, 1)), ("open", (0, 1))])


def at_point(vessel, wares, point):
    return vessel.with_state(wares[0], ("open", point[0])).with_state(wares[1], ("open", point[1]))


def mean(points):
    return tuple([pair(sum([frac(point[at]) for point in points]) / len(points)) for at in (0, 1)])


def moved(point, other, share):
    """The point beyond the first one as seen from the other one, by a share of the way between both."""
    return tuple([pair(frac(a) + share * (frac(a) - frac(b))) for a, b in zip(point, other)])


def turn(one, other, point):
    (a, b), (c, d), (e, f) = fracs(one), fracs(other), fracs(point)
    return (c - a) * (f - b) - (d - b) * (e - a)


def area(corners):
    """Twice the area of a polygon, negative with the clock."""
    return sum([frac(a[0]) * frac(b[1]) - frac(b[0]) * frac(a[1]) for a, b in zip(corners, corners[1:] + corners[:1])])


def common_sides(corners, others):
    """The parts longer than a point that sides of two polygons have in common, each with its least end first."""
    found = []
    for a, b in zip(corners, corners[1:] + corners[:1]):
        for c, d in zip(others, others[1:] + others[:1]):
            if turn(a, b, c) == turn(a, b, d) == 0:
                (low, high), (bottom, top) = sorted([a, b], key=fracs), sorted([c, d], key=fracs)
                first, last = max(low, bottom, key=fracs), min(high, top, key=fracs)
                if fracs(first) < fracs(last):
                    found.append((first, last))
    return found


def is_inside(corners, point, strictly=False):
    turns = [turn(a, b, point) for a, b in zip(corners, corners[1:] + corners[:1])]
    return all(side > 0 if strictly else side >= 0 for side in turns)


def open_pairs(seed, many):
    """Vessels with two or more open wares that can be filled, with two of these wares."""
    rnd = random.Random(seed)
    for vessel in random_vessels(seed, many):
        states = [state if rnd.random() < 0.6 else ("open", pair(Fraction(rnd.randint(-4, 4), 2))) for state in vessel.states]
        vessel = Vessel(vessel.book, states)
        if len(vessel.open_wares()) > 1 and end_of(vessel)[0] != "unfillable":
            yield vessel, rnd.sample(vessel.open_wares(), 2)


class FieldCase(Case):
    def is_rest_at(self, vessel, wares, point, fill):
        there = at_point(vessel, wares, point)
        return end_of(there)[0] == "rests" and there.fits(fill) and touches(there.book, rest_of(there).row, fill)

    def hold_corners(self, corners):
        """Holds the order of [20]: from the least corner on, against the clock, without straight points."""
        self.assertIs(type(corners), tuple)
        self.assertGreaterEqual(len(corners), 3)
        self.assertEqual(min(corners, key=fracs), corners[0])
        for at, corner in enumerate(corners):
            self.assertGreater(turn(corners[at - 1], corner, corners[at + 1 - len(corners)]), 0)

    def hold_field(self, vessel, wares, window, field):
        """Holds a field against the rests at points within, on sides and out of it."""
        places = [vessel.book.ware_index(ware) for ware in wares]
        self.assertIs(type(field), Field)
        self.hold_corners(field.corners)
        self.assertEqual(repr(field), f"Field({len(field.corners)} corners)")
        self.assertEqual(tuple(field.fill.contents[at] for at in places), field.held)
        centre = mean(field.corners)
        middles = [mean([a, b]) for a, b in zip(field.corners, field.corners[1:] + field.corners[:1])]
        for point in [centre, *field.corners, *middles]:
            self.assertTrue(point in field)
            self.assertTrue(self.is_rest_at(vessel, wares, point, field.fill))
        for point in [moved(middle, centre, Fraction(1, 10 ** 6)) for middle in middles]:
            self.assertFalse(point in field)
            if self.is_in_window(window, point):
                self.assertFalse(self.is_rest_at(vessel, wares, point, field.fill))

    def is_in_window(self, window, point):
        low, high, bottom, top = fracs(window)
        return low <= frac(point[0]) <= high and bottom <= frac(point[1]) <= top

    def check(self, vessel, wares, window, rnd):
        found = Fields(vessel, ware=wares[0], other=wares[1], window=window)
        fields = found.fields()
        self.assertIs(type(fields), list)
        self.assertEqual((len(found), repr(found)), (len(fields), f"Fields({len(fields)} fields)"))
        for field in fields:
            self.hold_field(vessel, wares, window, field)
        self.assertEqual(len({field.held for field in fields}), len(fields))
        keys = [(fracs(field.corners[0]), fracs(field.held)) for field in fields]
        self.assertEqual(keys, sorted(keys))
        for one, other in combinations(fields, 2):
            self.assertFalse(is_inside(other.corners, mean(one.corners), True))
        low, high, bottom, top = fracs(window)
        resting = 0
        for _ in range(8):
            point = (pair(low + (high - low) * Fraction(rnd.randint(0, 16), 16)), pair(bottom + (top - bottom) * Fraction(rnd.randint(0, 16), 16)))
            holding = [field for field in fields if is_inside(field.corners, point)]
            at = found.field_at(point)
            self.assertIs(at, holding[0] if holding else None)
            self.assertEqual([point in field for field in fields], [field in holding for field in fields])
            rests = end_of(at_point(vessel, wares, point))[0] == "rests"
            resting += rests
            if fields:
                self.assertIs(rests, bool(holding))
            self.assertTrue(not holding or self.is_rest_at(vessel, wares, point, at.fill))
        if not fields:
            self.assertFalse(self.has_resting_inside(vessel, wares, window))
        self.check_borders(vessel, wares, found, fields)
        return found

    def has_resting_inside(self, vessel, wares, window):
        """Whether the points of the window at which the vessel rests have an inside, by cutting the window by hand."""
        low, high, bottom, top = fracs(window)
        corners = [(low, bottom), (high, bottom), (high, top), (low, top)]
        free = at_point(vessel, wares, row(0, 0))
        places = [vessel.book.ware_index(ware) for ware in wares]
        for reaction in least_reactions(free):
            told = reaction if reaction.made() else -reaction
            if not told.used():
                a, b = [told.contents_of()[at] for at in places]
                limit = frac(reaction_cost(free, told))
                heights = [a * x + b * y - limit for x, y in corners]
                left = []
                for at, (x, y) in enumerate(corners):
                    u, v = corners[at - 1]
                    if heights[at - 1] * heights[at] < 0:
                        share = heights[at - 1] / (heights[at - 1] - heights[at])
                        left.append((u + share * (x - u), v + share * (y - v)))
                    if heights[at] <= 0:
                        left.append((x, y))
                corners = left
        return bool(corners) and area([(pair(x), pair(y)) for x, y in corners]) > 0

    def check_borders(self, vessel, wares, found, fields):
        borders = found.borders()
        self.assertIs(type(borders), list)
        expected = []
        for i, j in combinations(range(len(fields)), 2):
            # The common points of two convex polygons without common inside points lie on one line.
            points = {corner for one, other in ((fields[i], fields[j]), (fields[j], fields[i])) for corner in one.corners if corner in other}
            if len(points) > 1:
                expected.append((i, j, min(points, key=fracs), max(points, key=fracs)))
        self.assertEqual(borders, expected)
        for border in borders:
            self.assertIs(type(border), tuple)
            one, other = fields[border[0]], fields[border[1]]
            change = [a - b for a, b in zip(fracs(one.fill.parts), fracs(other.fill.parts))]
            for point in border[2:]:
                there = at_point(vessel, wares, point)
                self.assertEqual(dot(row(*change), there.net_costs()), 0)


class TestFields(FieldCase):
    def run_check(self, vessel, wares, window, seed=1):
        return self.check(vessel, wares, window, random.Random(seed))

    def test_example(self):
        found = self.run_check(example(), ["salt", "heat"], WINDOW)
        fields = found.fields()
        self.assertEqual([field.held for field in fields], [row(0, 0), row("4/3", "32/3"), row(0, 48)])
        self.assertEqual(fields[0].corners, (row(-5, -5), row(0, -5), row(0, "9/4"), row(-5, "23/8")))
        self.assertEqual(found.borders(), [(0, 1, row(-5, "23/8"), row(0, "9/4")), (1, 2, row(-5, "115/28"), row(0, "30/7"))])
        turned = self.run_check(example(), ["heat", "salt"], row(-5, 8, -5, 5))
        self.assertEqual({field.held for field in turned.fields()}, {row(0, 0), row("32/3", "4/3"), row(48, 0)})

    def test_no_fields(self):
        # Above the price 0 salt runs away, so the vessel rests on one side of this window alone.
        found = Fields(example(), ware="salt", other="heat", window=row(0, 5, 0, 1))
        self.assertEqual((found.fields(), len(found), found.borders(), repr(found)), ([], 0, [], "Fields(0 fields)"))
        self.assertIsNone(found.field_at(row(0, "1/2")))

    def test_one_field(self):
        found = self.run_check(example(), ["salt", "heat"], row(-2, -1, 0, 1))
        self.assertEqual([field.corners for field in found.fields()], [(row(-2, 0), row(-1, 0), row(-1, 1), row(-2, 1))])
        self.assertEqual(found.borders(), [])
        field = found.fields()[0]
        self.assertIs(found.field_at(row(-1, "1/2")), field)

    def test_random_vessels(self):
        rnd = random.Random(121)
        sizes = {}
        for vessel, wares in open_pairs(122, 500):
            low, bottom = [Fraction(rnd.randint(-8, 0), rnd.randint(1, 2)) for _ in range(2)]
            window = row(low, low + Fraction(rnd.randint(1, 12), 2), bottom, bottom + Fraction(rnd.randint(2, 12), 2))
            many = len(self.check(vessel, wares, window, rnd))
            sizes[min(many, 4)] = sizes.get(min(many, 4), 0) + 1
        self.assertGreater(min(sizes[size] for size in range(4)), 2)

    def test_fields_cover_the_window(self):
        found = self.run_check(Vessel(example_book(), [("shut", (3, 1)), ("open", (0, 1)), ("open", (0, 1))]), ["salt", "heat"], row(-9, -1, 0, 7))
        self.assertEqual(sum([area(field.corners) for field in found.fields()]), 2 * 8 * 7)

    def test_many_fields(self):
        rnd = random.Random(123)
        kinds = [(f"k{at}", tuple([rnd.randint(0, 9) for _ in range(4)]), (rnd.randint(0, 50), 1)) for at in range(12)]
        vessel = Vessel(wide_book(tuple("abcd"), kinds), [("shut", (9, 1)), ("shut", (11, 1)), ("open", (0, 1)), ("open", (0, 1))])
        found = self.run_check(vessel, ["c", "d"], row(-10, 10, -10, 10))
        self.assertGreater(len(found), 5)
        self.assertGreater(len(found.borders()), 5)

    def test_fields_that_meet_in_one_corner(self):
        kinds = [Kind(name, (1, a, b)) for name, a, b in [("p", 1, 1), ("q", -1, 1), ("r", 1, -1), ("s", -1, -1)]]
        vessel = Vessel(Book(["a", "b", "c"], *kinds), [("shut", (1, 1)), ("open", (0, 1)), ("open", (0, 1))])
        found = self.run_check(vessel, ["b", "c"], row(-1, 1, -1, 1))
        self.assertEqual([(i, j) for i, j, _, _ in found.borders()], [(0, 1), (0, 2), (1, 3), (2, 3)])
        self.assertEqual([field.held for field in found.fields()], [row(-1, -1), row(-1, 1), row(1, -1), row(1, 1)])
        self.assertIs(found.field_at(row(0, 0)), found.fields()[0])
        self.assertIs(found.field_at(row(0, 1)), found.fields()[1])

    def test_fields_with_the_same_first_corner(self):
        kinds = [Kind("p", (1, 1, 0)), Kind("q", (1, 0, 1)), Kind("r", (1, 0, 0))]
        vessel = Vessel(Book(["a", "b", "c"], *kinds), [("shut", (1, 1)), ("open", (0, 1)), ("open", (0, 1))])
        found = self.run_check(vessel, ["b", "c"], row(0, 1, 0, 1))
        self.assertEqual([(field.corners[0], field.held) for field in found.fields()], [(row(0, 0), row(0, 1)), (row(0, 0), row(1, 0))])
        self.assertEqual(found.borders(), [(0, 1, row(0, 0), row(1, 1))])

    def test_fills_that_rest_at_one_point_alone(self):
        # At the prices 1 and 0 all three kinds can rest, and the told rest is the third one; where the room price is below 0,
        # or above it, it rests nowhere else.
        for room in (1, -1):
            book = Book(["stuff", "heat", "room"], Kind("low", (1, 0, 0)), Kind("high", (1, 2, room), cost=(2, 1)),
                        Kind("middle", (1, 1, 0), cost=(1, 1)))
            vessel = Vessel(book, [("shut", (3, 1)), ("open", (1, 1)), ("open", (0, 1))])
            self.assertEqual(rest_of(vessel).fill.lot, ("middle",))
            for window in [row(0, 2, -1, 0), row(1, 2, 0, 1), row(0, 1, 0, 1), row(0, 2, -1, 1), row(1, 2, -1, 0), row(0, 1, -1, 0)]:
                self.run_check(vessel, ["heat", "room"], window)
            one_side = row(0, 2, 0, 1) if room == 1 else row(0, 2, -1, 0)
            found = self.run_check(vessel, ["heat", "room"], one_side)
            self.assertEqual([field.fill.lot for field in found.fields()], [("low",), ("high",)])

    def test_own_prices_mean_nothing(self):
        one = Fields(example(), ware="salt", other="heat", window=WINDOW)
        vessel = example().with_state("salt", ("open", (99, 1))).with_state("heat", ("open", (-7, 2)))
        other = Fields(window=WINDOW, other="heat", ware="salt", vessel=vessel)
        self.assertEqual([(field.corners, field.held, field.fill) for field in one.fields()],
                         [(field.corners, field.held, field.fill) for field in other.fields()])
        self.assertEqual(one.borders(), other.borders())

    def test_returned_lists_are_new(self):
        found = Fields(example(), ware="salt", other="heat", window=WINDOW)
        found.fields().clear()
        found.borders().clear()
        self.assertEqual((len(found.fields()), len(found.borders()), len(found)), (3, 2, 3))

    def test_points_in_fields(self):
        field = Fields(example(), ware="salt", other="heat", window=WINDOW).fields()[0]
        for point in [row(-5, -5), row(-1, 1), row(0, 0), row(-1, "19/8")]:
            self.assertIs(point in field, True)
        for value in [*any_values(), row(-1, "20/8"), row(1, 0), row(-6, 0), row(-1), row(-1, 1, 1), list(row(-1, 1)), (-1, 1),
                      ((-1, 1), 1), ((-1, 1), (2, 2)), field]:
            self.assertIs(value in field, False)

    def test_points_outside_of_the_window(self):
        found = Fields(example(), ware="salt", other="heat", window=WINDOW)
        for value in [*any_values(), row(-6, 0), row(6, 0), row(0, -6), row(0, "81/10"), row(0), row(0, 0, 0), list(row(0, 0)), (0, 0),
                      ((0, 1), 0), ((0, 1), (0, 2))]:
            self.assertIs(self.raised(OutsideWindow, found.field_at, value).point, value)
        self.assertIsNone(found.field_at(row(5, 8)))
        self.assertIsNotNone(found.field_at(point=row(-5, 8)))


class TestErrors(FieldCase):
    def refused(self, error, vessel, ware, other, window):
        return self.raised(error, Fields, vessel, ware=ware, other=other, window=window)

    def test_each_error(self):
        vessel = example()
        for value in [*any_values(), "ice", "Heat", 2]:
            self.assertIs(self.refused(UnknownWare, vessel, value, "heat", WINDOW).name, value)
            self.assertIs(self.refused(UnknownWare, vessel, "salt", value, WINDOW).name, value)
        self.assertEqual(self.refused(UnknownWare, vessel, "salt", "salt", WINDOW).name, "salt")
        self.assertEqual(self.refused(NotOpen, vessel, "water", "heat", WINDOW).ware, "water")
        self.assertEqual(self.refused(NotOpen, vessel, "salt", "water", WINDOW).ware, "water")
        for value in DOUBLE_WINDOWS:
            self.refused(InvalidWindow, vessel, "salt", "heat", value)
        unfillable = example(-1)
        self.assertEqual(self.refused(Unfillable, unfillable, "salt", "heat", WINDOW).row, end_of(unfillable)[1])
        self.assertEqual(self.refused(TooMany, all_shut(wide_kinds(13)), "a", "b", WINDOW).most, 12)

    def test_order_of_errors(self):
        wide = all_shut(wide_kinds(13)).with_amounts(row(-1, 0, 0))
        self.refused(TooMany, wide, None, None, None)
        unfillable = example(-1)
        self.assertEqual(self.refused(UnknownWare, unfillable, "fog", "mist", None).name, "fog")
        self.assertEqual(self.refused(UnknownWare, unfillable, "water", "fog", None).name, "fog")
        self.assertEqual(self.refused(UnknownWare, unfillable, "water", "water", None).name, "water")
        two = Vessel(example_book(), [("shut", (-1, 1)), ("shut", (1, 1)), ("open", (0, 1))])
        self.assertEqual(self.refused(NotOpen, two, "salt", "water", None).ware, "salt")
        self.assertEqual(self.refused(NotOpen, two, "heat", "water", None).ware, "water")
        self.refused(InvalidWindow, unfillable, "salt", "heat", row(0, 1, 1, 0))
        self.refused(Unfillable, unfillable, "salt", "heat", WINDOW)

    def test_unfillable_goes_ahead_of_running_away(self):
        book = wide_book(("a", "b", "c"), [("x", (0, 1, 1), (-1, 1)), ("y", (0, 0, 0), (-1, 1))])
        vessel = Vessel(book, [("shut", (1, 1)), ("open", (0, 1)), ("open", (0, 1))])
        self.refused(Unfillable, vessel, "b", "c", WINDOW)
        self.assertEqual(Fields(vessel.with_amounts(row(0, 0, 0)), ware="b", other="c", window=WINDOW).fields(), [])

    def test_keyword_only(self):
        with self.assertRaises(TypeError):
            Fields(example(), "salt", "heat", WINDOW)
