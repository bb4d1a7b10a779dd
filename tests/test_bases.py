import random
from fractions import Fraction
from itertools import combinations

from shutopen.bases import base_field, is_base
from shutopen.books import Book
from shutopen.charts import Cone
from shutopen.errors import InvalidLot, InvalidWindow, NotBase, NotOpen, UnknownWare
from shutopen.fields import Fields
from shutopen.kinds import Kind
from shutopen.vessels import Vessel
from tests.helpers import (all_shut, any_values, example_book, example_vessel, frac, fracs, net_costs, own_rank, pair, row, shut_columns,
                           solved, wide_kinds)
from tests.test_downhill import WRONG_LOTS
from tests.test_fields import DOUBLE_WINDOWS, WINDOW, FieldCase as BaseCase
from tests.test_fields import area, at_point, example, is_inside, mean, open_pairs


def base_lacks(vessel, base):
    """The lacks of all kinds under a row that touches the base, as Python's fractions: what each kind costs beyond the
    mixture of the base that has its numbers at the shut wares.
    """
    columns, _ = shut_columns(vessel)
    costs = net_costs(vessel)
    inside = [at for at, name in enumerate(vessel.book.names) if name in base]
    found = []
    for column, cost in zip(columns, costs):
        weights = solved([columns[at] for at in inside], column)
        found.append(cost - sum([weight * costs[at] for weight, at in zip(weights, inside)]))
    return found


class TestIsBase(BaseCase):
    def test_example(self):
        vessel = example_vessel()
        for base in [["ice", "salt"], ("brine", "ice"), ["steam", "brine"], ("salt", "water"), ["water", "brine"]]:
            self.assertIs(is_base(vessel, base), True)
        for base in [["ice"], [], ["ice", "water"], ["ice", "salt", "brine"], ["steam", "ice"], ["ice", "fog"], ["ice", "ice"],
                     ["ice", "salt", "salt"], ["ice", None], "ice", ("ice", ["salt"]), {"ice": 1, "salt": 2}]:
            self.assertIs(is_base(vessel, base), False)
        self.assertIs(is_base(value=("ice", "salt", "brine"), vessel=example_vessel(("shut", (1, 1)))), True)

    def test_any_values(self):
        for value in any_values():
            self.assertIs(is_base(example_vessel(), value), False)
            self.assertIs(is_base(example_vessel(), [value, "ice"]), False)

    def test_all_lots_of_random_vessels(self):
        bases = 0
        for vessel, _ in open_pairs(131, 80):
            columns, _ = shut_columns(vessel)
            for size in range(len(columns) + 1):
                for places in combinations(range(len(columns)), size):
                    expected = own_rank([columns[at] for at in places]) == size == own_rank(columns)
                    lot = [vessel.book.names[at] for at in places]
                    self.assertIs(is_base(vessel, lot[::-1]), expected)
                    self.assertIs(is_base(vessel, tuple(lot)), expected)
                    bases += expected
        self.assertGreater(bases, 50)

    def test_without_rank_the_empty_lot_is_the_base(self):
        vessel = Vessel(example_book(), [("open", (0, 1))] * 3)
        self.assertEqual([is_base(vessel, value) for value in ([], (), ["ice"], None, {}, "")], [True, True, False, False, False, False])
        zeros = all_shut(Book(["a"], Kind("x", (0,)), Kind("y", (0,))))
        self.assertEqual([is_base(zeros, value) for value in ([], ["x"])], [True, False])


class TestBaseField(BaseCase):
    def check(self, vessel, base, wares, window):
        """Holds a base field against the lacks at its corners, within it and beside it."""
        corners = base_field(vessel, base, ware=wares[0], other=wares[1], window=window)
        if corners == ():
            low, high, bottom, top = fracs(window)
            shares = [Fraction(at, 7) for at in range(1, 7)]
            points = [(low + a * (high - low), bottom + b * (top - bottom)) for a in shares for b in shares]
            for x, y in points:
                lacks = base_lacks(at_point(vessel, wares, row(x, y)), base)
                self.assertTrue(any(lack <= 0 for name, lack in zip(vessel.book.names, lacks) if name not in base))
            return corners
        self.hold_corners(corners)
        centre = mean(corners)
        middles = [mean([a, b]) for a, b in zip(corners, corners[1:] + corners[:1])]
        for point in [centre, *corners, *middles]:
            self.assertTrue(self.is_in_window(window, point))
            self.assertTrue(all(lack >= 0 for lack in base_lacks(at_point(vessel, wares, point), base)))
        for middle in middles:
            point = tuple([pair(frac(a) + (frac(a) - frac(b)) / 10 ** 6) for a, b in zip(middle, centre)])
            if self.is_in_window(window, point):
                self.assertTrue(any(lack < 0 for lack in base_lacks(at_point(vessel, wares, point), base)))
        self.assertEqual(base_field(window=window, other=wares[1], ware=wares[0], base=tuple(reversed(base)), vessel=vessel), corners)
        return corners

    def test_example_against_fields(self):
        vessel = example()
        found = [self.check(vessel, [name], ["salt", "heat"], WINDOW) for name in ("ice", "water", "brine", "steam")]
        fields = Fields(vessel, ware="salt", other="heat", window=WINDOW).fields()
        self.assertEqual([corners for corners in found if corners], [field.corners for field in fields])
        self.assertEqual(found[1], ())

    def test_does_not_depend_on_shut_amounts(self):
        expected = self.check(example(), ["brine"], ["salt", "heat"], WINDOW)
        for amount in (0, -5, 77):
            self.assertEqual(self.check(example(amount), ["brine"], ["salt", "heat"], WINDOW), expected)

    def test_does_not_depend_on_the_prices_of_both_wares(self):
        vessel = example().with_state("salt", ("open", (9, 1))).with_state("heat", ("open", (-1, 3)))
        expected = self.check(example(), ["brine"], ["salt", "heat"], WINDOW)
        self.assertEqual(self.check(vessel, ["brine"], ["salt", "heat"], WINDOW), expected)

    def test_random_vessels(self):
        rnd = random.Random(132)
        shown = {True: 0, False: 0}
        for vessel, wares in open_pairs(133, 250):
            window = row(-3, rnd.randint(-2, 3), -3, rnd.randint(-2, 3))
            names = list(vessel.book.names)
            bases = [lot for size in range(len(names) + 1) for lot in combinations(names, size) if is_base(vessel, lot)]
            covering = []
            for base in bases:
                corners = self.check(vessel, list(base), wares, window)
                shown[bool(corners)] += 1
                point = tuple([amount for (word, _), amount in zip(vessel.states, vessel.amounts) if word == "shut"])
                if corners and Cone(vessel, base).holds(point):
                    covering.append((base, corners))
            fields = Fields(vessel, ware=wares[0], other=wares[1], window=window).fields()
            # The fill with only kinds of a base whose cone holds the amounts is a rest all over the base field.
            for base, corners in covering:
                holding = [field for field in fields if is_inside(field.corners, mean(corners))]
                self.assertEqual(len(holding), 1)
                self.assertTrue(all(corner in holding[0] for corner in corners))
            for field in fields:
                largest = max([area(corners) for _, corners in covering if is_inside(field.corners, mean(corners))], default=0)
                self.assertLessEqual(largest, area(field.corners))
                self.assertGreater(largest, 0)
        self.assertGreater(min(shown.values()), 30)

    def test_fields_without_an_inside(self):
        kinds = [Kind("p", (1, 1, 0)), Kind("q", (1, 0, 0)), Kind("r", (1, -1, 0))]
        vessel = Vessel(Book(["a", "b", "c"], *kinds), [("shut", (1, 1)), ("open", (0, 1)), ("open", (0, 1))])
        self.assertEqual(self.check(vessel, ["q"], ["b", "c"], row(-1, 1, -1, 1)), ())
        self.assertEqual(self.check(vessel, ["p"], ["b", "c"], row(-1, 1, -1, 1)), (row(0, -1), row(1, -1), row(1, 1), row(0, 1)))
        self.assertEqual(self.check(vessel, ["p"], ["b", "c"], row(-1, 0, -1, 1)), ())

    def test_the_whole_window(self):
        vessel = Vessel(example_book().part(["ice"]), [("shut", (1, 1)), ("open", (0, 1)), ("open", (0, 1))])
        self.assertEqual(self.check(vessel, ["ice"], ["heat", "salt"], row(-1, 2, 3, 4)), (row(-1, 3), row(2, 3), row(2, 4), row(-1, 4)))

    def test_without_shut_wares(self):
        vessel = Vessel(example_book(), [("open", (0, 1))] * 3)
        corners = self.check(vessel, [], ["salt", "heat"], row(-1, 1, 0, 3))
        self.assertEqual(corners, (row(-1, 0), row(0, 0), row(0, "9/4"), row(-1, "19/8")))

    def test_more_than_twelve_kinds(self):
        vessel = all_shut(wide_kinds(15)).with_state("b", ("open", (0, 1))).with_state("c", ("open", (0, 1)))
        self.check(vessel, ["k2"], ["b", "c"], row(-1, 1, -1, 1))

    def test_each_error(self):
        vessel = example()

        def refused(error, base, ware="salt", other="heat", window=WINDOW):
            return self.raised(error, base_field, vessel, base, ware=ware, other=other, window=window)

        for value, at in WRONG_LOTS:
            self.assertEqual(refused(InvalidLot, value).at, at)
        for base in [[], ["salt"], ["ice", "water"], ["ice", "salt"]]:
            refused(NotBase, base)
        for value in [*any_values(), "ice", "Heat"]:
            self.assertIs(refused(UnknownWare, ["ice"], ware=value).name, value)
            self.assertIs(refused(UnknownWare, ["ice"], other=value).name, value)
        self.assertEqual(refused(UnknownWare, ["ice"], ware="heat").name, "heat")
        self.assertEqual(refused(NotOpen, ["ice"], ware="water").ware, "water")
        self.assertEqual(refused(NotOpen, ["ice"], other="water").ware, "water")
        for value in DOUBLE_WINDOWS:
            refused(InvalidWindow, ["ice"], window=value)

    def test_order_of_errors(self):
        vessel = example()

        def refused(error, *values):
            return self.raised(error, base_field, vessel, values[0], ware=values[1], other=values[2], window=values[3])

        self.assertEqual(refused(InvalidLot, ["ice", "fog"], None, None, None).at, 1)
        refused(NotBase, ["salt"], None, None, None)
        self.assertEqual(refused(UnknownWare, ["ice"], "water", "mist", None).name, "mist")
        self.assertEqual(refused(UnknownWare, ["ice"], "fog", "fog", None).name, "fog")
        self.assertEqual(refused(UnknownWare, ["ice"], "water", "water", None).name, "water")
        self.assertEqual(refused(NotOpen, ["ice"], "heat", "water", None).ware, "water")
        refused(InvalidWindow, ["ice"], "heat", "salt", row(0, 1))

    def test_keyword_only(self):
        with self.assertRaises(TypeError):
            base_field(example(), ["ice"], "salt", "heat", WINDOW)
