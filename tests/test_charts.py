import random
from fractions import Fraction

from shutopen.books import Book, wide_book
from shutopen.charts import Chart, Cone
from shutopen.errors import Hollow, InvalidRow, TooMany, Unfillable
from shutopen.kinds import Kind
from shutopen.rests import end_of
from shutopen.sure import maybe
from shutopen.vessels import Vessel
from tests.helpers import (Case, all_shut, any_values, basic_mixtures, dot, example_book, example_vessel, frac, fraction_list, fracs,
                           lots_by_sets, net_costs, own_rank, pair, random_vessels, row, shut_columns, summed, wide_kinds)


def chart_lots(vessel):
    columns, _ = shut_columns(vessel)
    return lots_by_sets(vessel.book.names, columns, row(*net_costs(vessel)))


def chart_of(vessel):
    """The chart of a vessel, None if it has more than three shut wares or no borne row suits it."""
    try:
        return Chart(vessel)
    except (TooMany, Hollow):
        return None


def amounts_at(vessel, point):
    """The vessel with the amounts of an amount point."""
    left = list(point)
    return vessel.with_amounts(tuple([left.pop(0) if word == "shut" else (0, 1) for word, _ in vessel.states]))


def charts(seed, many):
    found = [chart_of(vessel) for vessel in random_vessels(seed, many)]
    return [chart for chart in found if chart is not None]


class ChartCase(Case):
    def same_cones(self, cones, lots):
        self.assertIs(type(cones), list)
        self.assertTrue(all(type(cone) is Cone for cone in cones))
        self.assertEqual([cone.lot for cone in cones], lots)


class TestChart(ChartCase):
    def check(self, vessel):
        chart = Chart(vessel)
        self.assertIs(chart.vessel, vessel)
        lots = chart_lots(vessel)
        self.same_cones(chart.cones(), lots)
        self.assertEqual((len(chart), repr(chart)), (len(lots), f"Chart({len(lots)} cones)"))
        columns, _ = shut_columns(vessel)
        for cone in chart.cones():
            rays = tuple([column for name, column in zip(vessel.book.names, columns) if name in cone.lot])
            self.assertEqual((cone.rays, cone.rank, repr(cone)), (rays, own_rank(rays), f"Cone({len(cone.lot)} kinds)"))
        great = [lot for lot in lots if not any(set(lot) < set(other) for other in lots)]
        self.same_cones(chart.great(), great)
        self.assertEqual(len({cone.rank for cone in chart.great()}), 1)
        for cone in chart.great():
            expected = [other for other in great if other != cone.lot and own_rank(
                [column for name, column in zip(vessel.book.names, columns) if name in cone.lot and name in other]) == cone.rank - 1]
            self.same_cones(chart.neighbours(cone), expected)
        return chart

    def test_example(self):
        chart = self.check(example_vessel())
        self.assertEqual([cone.lot for cone in chart.great()], [("ice", "brine"), ("salt", "brine")])
        self.assertEqual([cone.lot for cone in chart.neighbours(chart.great()[0])], [("salt", "brine")])
        self.assertEqual([cone.lot for cone in chart.neighbours(cone=chart.great()[1])], [("ice", "brine")])
        chart = self.check(example_vessel(("shut", (3, 1))))
        self.assertEqual(len(chart), 18)
        self.assertEqual([cone.lot for cone in chart.great()], [("ice", "water", "brine"), ("ice", "salt", "brine"),
                                                               ("water", "brine", "steam"), ("salt", "brine", "steam")])
        self.assertEqual([cone.lot for cone in chart.neighbours(chart.great()[0])],
                         [("ice", "salt", "brine"), ("water", "brine", "steam")])

    def test_random_vessels(self):
        many = 0
        for chart in charts(101, 200):
            many += len(self.check(chart.vessel)) > 3
        self.assertGreater(many, 30)

    def test_great_cones_with_more_kinds_than_others(self):
        book = Book(["a", "b"], Kind("p", (1, 0)), Kind("q", (0, 1)), Kind("r", (1, 1), cost=(-1, 1)), Kind("s", (2, 1), cost=(-1, 1)))
        chart = self.check(all_shut(book))
        self.assertEqual([cone.lot for cone in chart.great()], [("q", "r"), ("p", "r", "s")])
        self.assertEqual([cone.lot for cone in chart.neighbours(chart.great()[0])], [("p", "r", "s")])

    def test_without_shut_wares(self):
        vessel = Vessel(example_book(), [("open", (0, 1)), ("open", (0, 1)), ("open", (9, 4))])
        chart = self.check(vessel)
        self.assertEqual([cone.lot for cone in chart.cones()], [("ice", "salt", "brine")])
        cone = chart.cone_of(())
        self.assertEqual((cone.lot, cone.rank, cone.rays), (("ice", "salt", "brine"), 0, ((), (), ())))
        self.assertEqual((cone.holds(()), cone.inside(()), cone.mixed(())), (True, True, row(0, 0, 0, 0, 0)))
        self.assertEqual((cone.holds(row(0)), cone.inside(row(0)), cone.mixed(row(0))), (False, False, None))
        self.assertEqual(chart.neighbours(cone), [])

    def test_three_and_four_shut_wares(self):
        book = Book(["a", "b", "c", "d"], Kind("x", (1, 0, 2, 1)), Kind("y", (0, 1, 1, 3), cost=(1, 1)), Kind("z", (1, 1, 0, 2), cost=(1, 2)))
        self.assertEqual(self.raised(TooMany, Chart, all_shut(book)).most, 3)
        self.check(all_shut(book).with_state("c", ("open", (-1, 1))))
        wide = wide_kinds(13, "abcd")
        self.assertEqual(self.raised(TooMany, Chart, all_shut(wide)).most, 3)
        hollow = wide_book(tuple("abcd"), [("x", (0, 0, 0, 0), (-1, 1))])
        self.assertEqual(self.raised(TooMany, Chart, all_shut(hollow)).most, 3)

    def test_twelve_kinds_and_thirteen(self):
        self.check(all_shut(wide_kinds(12)))
        self.assertEqual(self.raised(TooMany, Chart, all_shut(wide_kinds(13))).most, 12)
        hollow = wide_book(("a",), [(f"k{at}", (0,), (-1, 1)) for at in range(13)])
        self.assertEqual(self.raised(TooMany, Chart, all_shut(hollow)).most, 12)

    def test_hollow(self):
        book = Book(["a", "b"], Kind("x", (1, 1)), Kind("y", (-1, 2), cost=(1, 1)), Kind("z", (0, -1), cost=(1, 1)))
        for vessel in [Vessel(book, [("shut", (1, 1)), ("open", (1, 1))]), Vessel(book, [("open", (-5, 1)), ("shut", (5, 1))]),
                       Vessel(example_book(), [("open", (1, 1))] * 3)]:
            mixture = self.raised(Hollow, Chart, vessel).mixture
            columns, _ = shut_columns(vessel)
            self.assertTrue(all(item >= 0 for item in fracs(mixture)))
            self.assertEqual(summed(columns, mixture, len(columns[0])), [0] * len(columns[0]))
            self.assertLess(sum(a * b for a, b in zip(fracs(mixture), net_costs(vessel))), 0)
            self.assertEqual(self.raised(Hollow, Chart, Vessel(vessel.book, vessel.states)).mixture, mixture)

    def test_amounts_mean_nothing(self):
        chart = Chart(example_vessel().with_amounts(row(-5, 0, 0)))
        self.assertEqual(chart.cones(), Chart(example_vessel()).cones())

    def test_returned_lists_are_new(self):
        chart = Chart(example_vessel())
        chart.cones().clear()
        chart.great().clear()
        chart.neighbours(chart.great()[0]).clear()
        self.assertEqual((len(chart.cones()), len(chart.great()), len(chart.neighbours(chart.great()[0]))), (6, 2, 1))


class TestConeOf(ChartCase):
    def check(self, chart, point):
        vessel = amounts_at(chart.vessel, point)
        if end_of(vessel)[0] == "unfillable":
            self.assertEqual(self.raised(Unfillable, chart.cone_of, point).row, end_of(vessel)[1])
            self.assertFalse(any(cone.holds(point) for cone in chart.cones()))
            return None
        cone = chart.cone_of(point)
        self.assertIs(type(cone), Cone)
        self.assertEqual(cone.lot, maybe(vessel)[0])
        self.assertEqual([other for other in chart.cones() if other.inside(point)], [cone])
        self.assertEqual(chart.cone_of(point=point), cone)
        return cone

    def test_example(self):
        chart = Chart(example_vessel())
        for point, lot in [(row(4, 1), ("ice", "brine")), (row(3, 1), ("brine",)), (row(0, 0), ()), (row(0, "1/9"), ("salt",)),
                           (row(1, 1), ("salt", "brine")), (row(7, 0), ("ice",)), (row(1, -1), None), (row(-1, 0), None)]:
            cone = self.check(chart, point)
            self.assertEqual(None if cone is None else cone.lot, lot)

    def test_random_charts(self):
        rnd = random.Random(102)
        found = {True: 0, False: 0}
        for chart in charts(103, 100):
            width = len(chart.vessel.shut_wares())
            for _ in range(3):
                cone = rnd.choice(chart.cones())
                weights = fraction_list(rnd, len(cone.rays), 0, 3)
                for point in (fraction_list(rnd, width), row(*summed(cone.rays, weights, width))):
                    found[self.check(chart, point) is None] += 1
        self.assertGreater(min(found.values()), 30)

    def test_wrong_points(self):
        chart = Chart(example_vessel())
        for value in [*any_values(), row(1), row(1, 1, 1), list(row(1, 1))]:
            if value != (True, 1) and value != (1, True) and value != (2, 4):
                expected = 0 if isinstance(value, tuple) and len(value) == 2 else -1
                self.assertEqual(self.raised(InvalidRow, chart.cone_of, value).at, expected)
        for value, at in [((None, (1, 1)), 0), (((1, 1), 2), 1), (((1, 1), (2, 4)), 1), (((1, 1), (True, 1)), 1), ((1, 1), 0)]:
            self.assertEqual(self.raised(InvalidRow, chart.cone_of, value).at, at)


class TestCone(ChartCase):
    def hold(self, cone, point):
        """Holds what a cone says of a point against all mixtures over independent rays."""
        width = len(cone.vessel.shut_wares())
        mixtures = basic_mixtures(cone.rays, point)
        self.assertIs(cone.holds(point), bool(mixtures))
        self.assertIs(cone.holds(point=point), bool(mixtures))
        found = cone.mixed(point)
        self.assertEqual(found is None, not mixtures)
        # All weights can be positive just if each one can: in a mixture, or in one with the sum 0.
        zero = basic_mixtures([(*ray, (1, 1)) for ray in cone.rays], row(*[0] * width, 1))
        can = bool(mixtures) and all(any(mixture[at] > 0 for mixture in mixtures + zero) for at in range(len(cone.rays)))
        self.assertIs(cone.inside(point), can)
        self.assertIs(cone.inside(point=point), can)
        if found is not None:
            self.assertEqual(cone.mixed(point=point), found)
            self.assertEqual(len(found), len(cone.vessel.book))
            self.assertTrue(all(item >= 0 for item in fracs(found)))
            self.assertTrue(all(item == (0, 1) or name in cone.lot for name, item in zip(cone.vessel.book.names, found)))
            columns, _ = shut_columns(cone.vessel)
            self.assertEqual(summed(columns, found, width), fracs(point))
        return bool(mixtures), can

    def test_example(self):
        chart = Chart(example_vessel())
        cones = {cone.lot: cone for cone in chart.cones()}
        great = cones["ice", "brine"]
        for point, expected in [(row(4, 1), (True, True)), (row(3, 1), (True, False)), (row(5, 0), (True, False)), (row(0, 0), (True, False)),
                                (row(2, 1), (False, False)), (row(-3, -1), (False, False))]:
            self.assertEqual(self.hold(great, point), expected)
        self.assertEqual(self.hold(cones["brine",], row(3, 1)), (True, True))
        self.assertEqual(self.hold(cones["brine",], row(4, 1)), (False, False))
        self.assertEqual([self.hold(cones[()], point) for point in (row(0, 0), row(0, 1))], [(True, True), (False, False)])
        self.assertEqual(great.mixed(row(4, 1)), row(1, 0, 0, 1, 0))

    def test_random_cones(self):
        rnd = random.Random(104)
        seen = {}
        for chart in charts(105, 120):
            width = len(chart.vessel.shut_wares())
            for cone in chart.cones():
                weights = [Fraction(rnd.randint(0, 3), 2) for _ in cone.rays]
                points = [fraction_list(rnd, width), row(*summed(cone.rays, row(*weights), width)),
                          row(*summed(cone.rays, row(*[weight + 1 for weight in weights]), width))]
                found = [self.hold(cone, point) for point in points]
                self.assertEqual((found[1][0], found[2]), (True, (True, True)))
                for result in found:
                    seen[result] = seen.get(result, 0) + 1
        self.assertEqual(len(seen), 3)
        self.assertGreater(min(seen.values()), 50)

    def test_cones_that_are_planes(self):
        book = Book(["a", "b"], Kind("x", (1, 0)), Kind("y", (-1, 0)), Kind("z", (0, 1)), Kind("air", (0, 0)))
        for cone in Chart(all_shut(book)).cones():
            for point in [row(0, 0), row(3, 0), row(-3, 0), row(0, 2), row(5, 2), row(0, -2), row(1, -1)]:
                self.hold(cone, point)

    def test_other_values(self):
        cone = Chart(example_vessel()).great()[0]
        for value in [*any_values(), row(4), row(4, 1, 1), list(row(4, 1)), (4, 1), ((4, 1), (2, 2)), ((4, 1), (True, 1)), cone]:
            self.assertEqual((cone.holds(value), cone.inside(value), cone.mixed(value)), (False, False, None))

    def test_common_cones(self):
        many = 0
        for chart in charts(106, 60):
            cones = chart.cones()
            for one in cones[-6:]:
                for other in cones[-6:]:
                    common = one & other
                    self.assertIs(type(common), Cone)
                    self.assertEqual(common.lot, tuple([name for name in one.lot if name in other.lot]))
                    self.assertEqual([cone for cone in cones if cone == common], [common])
                    self.assertEqual((common.rank, common.rays), next((cone.rank, cone.rays) for cone in cones if cone == common))
                    many += one != other
        self.assertGreater(many, 100)

    def test_common_points_are_those_of_the_common_cone(self):
        rnd = random.Random(107)
        for chart in charts(108, 40):
            width = len(chart.vessel.shut_wares())
            one, other = rnd.choice(chart.cones()), rnd.choice(chart.cones())
            for cone in (one, other, one & other):
                point = row(*summed(cone.rays, fraction_list(rnd, len(cone.rays), 0, 3), width))
                self.assertIs((one & other).holds(point), one.holds(point) and other.holds(point))

    def test_equality(self):
        vessel = example_vessel()
        great = Chart(vessel).great()
        self.assertTrue(great[0] == Chart(example_vessel().with_amounts(row(9, 7, 0))).great()[0])
        self.assertFalse(great[0] != Chart(example_vessel()).great()[0])
        other_price = Chart(example_vessel(("open", (12, 5)))).great()[0]
        other_shut = Chart(Vessel(example_book(), [("open", (0, 1)), ("shut", (1, 1)), ("open", (5, 2))])).cones()
        other_book = Chart(vessel.with_book(example_book().moved(row("1/9", 0, 0)))).cones()
        self.assertEqual(other_price.lot, great[0].lot)
        for other in [great[1], other_price, *other_shut, *other_book, great[0].lot, None, great, vessel]:
            self.assertFalse(great[0] == other)
            self.assertTrue(great[0] != other)

    def test_equality_needs_the_same_shut_wares(self):
        book = Book(["a", "b"], Kind("x", (1, 1)), Kind("y", (1, 2)))
        one = Chart(Vessel(book, [("shut", (0, 1)), ("open", (0, 1))]))
        other = Chart(Vessel(book, [("open", (0, 1)), ("shut", (0, 1))]))
        self.assertEqual([cone.lot for cone in one.cones()], [cone.lot for cone in other.cones()])
        self.assertFalse(one.cones()[-1] == other.cones()[-1])

    def test_returned_values_may_be_passed(self):
        cone = Chart(example_vessel()).great()[0]
        point = row(*summed(cone.rays, (pair(Fraction(10 ** 50, 7)), pair(Fraction(1, 10 ** 50))), 2))
        self.assertEqual(self.hold(cone, point), (True, True))
        self.assertEqual(dot(point, row(0, 1)), Fraction(1, 10 ** 50))
        self.assertEqual(frac(cone.mixed(point)[0]), Fraction(10 ** 50, 7))
