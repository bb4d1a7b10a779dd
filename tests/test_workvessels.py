import random

from shutopen.books import Book, wide_book
from shutopen.errors import InvalidRow
from shutopen.fills import Fill
from shutopen.kinds import Kind
from shutopen.lacks import lacks
from shutopen.vessels import Vessel
from shutopen.works import Works
from shutopen.workvessels import pot_rows, put_together, taken_apart, works_vessel
from tests.helpers import Case, any_values, dot, example_book, frac, fraction_list, fracs, pair, row
from tests.test_works import basin_by_hand, random_works


def vessel_by_hand(works):
    """The vessel of a works by the words of [26]."""
    names = works.pot_names()
    basins = []
    for ware in works.book.wares:
        for pot in names:
            basin = (ware, basin_by_hand(names, works.gates, ware, pot))
            if basin not in basins:
                basins.append(basin)
    kinds = []
    for pot in names:
        for kind in works.book.kinds:
            numbers = [dict(zip(works.book.wares, kind.numbers))[ware] * (pot in pots) for ware, pots in basins]
            kinds.append((f"{pot}.{kind.name}", tuple(numbers), kind.cost))
    for ware, source, goal, toll in works.valves:
        kinds.append((f"{source}.{goal}.{ware}", tuple([(other == ware) * ((source in pots) - (goal in pots)) for other, pots in basins]), toll))
    states = []
    for ware, pots in basins:
        prices = [price for other, pot, price in works.doors if other == ware and pot in pots]
        amount = sum(frac(works.amounts_of(pot)[works.book.wares.index(ware)]) for pot in pots)
        states.append(("open", prices[0]) if prices else ("shut", pair(amount)))
    return Vessel(wide_book(tuple([f"{pots[0]}.{ware}" for ware, pots in basins]), kinds), states)


class TestWorksVessel(Case):
    def check(self, works):
        found = works_vessel(works)
        self.assertEqual(found, vessel_by_hand(works))
        self.assertEqual(works_vessel(works=works), found)
        return found

    def test_example(self):
        book = example_book()
        doors = [("heat", "a", (5, 2)), ("heat", "b", (5, 2))]
        works = Works(book, [("a", row(0, 1, 0)), ("b", row(4, 0, 0))], doors=doors, gates=[("water", "b", "a")])
        vessel = self.check(works)
        self.assertEqual(vessel.book.wares, ("a.water", "a.salt", "b.salt", "a.heat", "b.heat"))
        self.assertEqual(vessel.book.names, tuple([f"{pot}.{name}" for pot in "ab" for name in book.names]))
        self.assertEqual(str(vessel), "a.water shut 4, a.salt shut 1, b.salt shut 0, a.heat open 5/2, b.heat open 5/2")
        self.assertEqual([kind.numbers for kind in vessel.book.kinds[3:9]],
                         [(3, 1, 0, 8, 0), (1, 0, 0, 12, 0), (1, 0, 0, 0, 0), (1, 0, 0, 0, 2), (0, 0, 1, 0, 0), (3, 0, 1, 0, 8)])
        works = Works(book, works.pots, doors=doors, valves=[("water", "b", "a", (1, 4)), ("salt", "a", "b", (0, 1))])
        vessel = self.check(works)
        self.assertEqual(vessel.book.names[10:], ("b.a.water", "a.b.salt"))
        self.assertEqual([(kind.numbers, kind.cost) for kind in vessel.book.kinds[10:]],
                         [((-1, 1, 0, 0, 0, 0), (1, 4)), ((0, 0, 1, -1, 0, 0), (0, 1))])

    def test_random_works(self):
        rnd = random.Random(201)
        for _ in range(150):
            self.check(random_works(rnd))

    def test_valves_within_one_basin(self):
        book = Book(["water"], Kind("ice", (1,)))
        works = Works(book, [("a", row(1)), ("b", row(2)), ("c", row(3))], gates=[("water", "c", "b"), ("water", "b", "a")],
                      valves=[("water", "a", "c", (1, 2)), ("water", "c", "a", (0, 1))])
        vessel = self.check(works)
        self.assertEqual((vessel.book.wares, str(vessel)), (("a.water",), "a.water shut 6"))
        self.assertEqual([(kind.name, kind.numbers) for kind in vessel.book.kinds[3:]], [("a.c.water", (0,)), ("c.a.water", (0,))])

    def test_one_pot(self):
        book = example_book()
        works = Works(book, [("main", row(4, 1, 7))], doors=[("heat", "main", (5, 2)), ("heat", "main", (5, 2))])
        self.assertEqual(str(self.check(works)), "main.water shut 4, main.salt shut 1, main.heat open 5/2")

    def test_doors_at_any_pot_of_a_basin(self):
        book = Book(["water"], Kind("ice", (1,)))
        for pot in "abc":
            works = Works(book, [("a", row(1)), ("b", row(2)), ("c", row(3))], gates=[("water", "c", "a")], doors=[("water", pot, (7, 1))])
            shut = "a.water shut 4, b.water open 7" if pot == "b" else "a.water open 7, b.water shut 2"
            self.assertEqual(str(self.check(works)), shut)


class TestTogetherAndApart(Case):
    def test_there_and_back(self):
        rnd = random.Random(202)
        for _ in range(80):
            works = random_works(rnd)
            fills = [Fill(works.book, fraction_list(rnd, len(works.book), 0, 3)) for _ in works.pots]
            flows = fraction_list(rnd, len(works.valves), 0, 3)
            found = put_together(works, fills, flows)
            self.assertEqual(found.book, works_vessel(works).book)
            self.assertEqual(found.parts, tuple([part for fill in fills for part in fill.parts]) + flows)
            self.assertEqual(put_together(flows=flows, fills=tuple(fills), works=works), found)
            self.assertEqual(taken_apart(works, found), (tuple(fills), flows))
            self.assertEqual(taken_apart(fill=found, works=works), (tuple(fills), flows))

    def test_contents_by_basins(self):
        works = Works(example_book(), [("a", row(0, 1, 0)), ("b", row(4, 0, 0))], gates=[("water", "a", "b")], valves=[("salt", "a", "b", (1, 1))])
        fills = [Fill.of(works.book, {"ice": (2, 1)}), Fill.of(works.book, {"brine": (1, 1)})]
        found = put_together(works, fills, row("1/2"))
        self.assertEqual(found.book.wares, ("a.water", "a.salt", "b.salt", "a.heat", "b.heat"))
        self.assertEqual(found.contents, row(5, "1/2", "1/2", 0, 8))
        self.assertEqual(found["a.b.salt"], (1, 2))

    def test_without_valves(self):
        works = Works(example_book(), [("a", row(0, 1, 0))])
        fill = Fill.of(works.book, {"ice": (2, 1)})
        self.assertEqual(taken_apart(works, put_together(works, [fill], ())), ((fill,), ()))


class TestPotRows(Case):
    def test_example(self):
        works = Works(example_book(), [("a", row(0, 1, 0)), ("b", row(4, 0, 0))], gates=[("water", "a", "b")])
        self.assertEqual(pot_rows(works, row(1, 2, 3, 4, 5)), (row(1, 2, 4), row(1, 3, 5)))
        self.assertEqual(pot_rows(row=row(1, 2, 3, 4, 5), works=works), (row(1, 2, 4), row(1, 3, 5)))

    def test_random_works(self):
        # The lacks of the kinds of the vessel are those of the kinds in the pots, and what the valves lack.
        rnd = random.Random(203)
        for _ in range(100):
            works = random_works(rnd)
            vessel = works_vessel(works)
            prices = fraction_list(rnd, len(vessel.book.wares))
            found = pot_rows(works, prices)
            self.assertEqual((type(found), len(found)), (tuple, len(works)))
            expected = [lack for own in found for lack in fracs(lacks(works.book, own))]
            for ware, source, goal, toll in works.valves:
                at = works.book.wares.index(ware)
                places = [works.pot_names().index(pot) for pot in (source, goal)]
                expected.append(frac(toll) - frac(found[places[0]][at]) + frac(found[places[1]][at]))
            self.assertEqual(fracs(lacks(vessel.book, prices)), expected)
            for own, (_, amounts) in zip(found, works.pots):
                self.assertEqual((len(own), len(fracs(amounts))), (len(works.book.wares),) * 2)
            self.assertEqual(sum(dot(own, amounts) for own, (_, amounts) in zip(found, works.pots)),
                             dot(prices, vessel_by_hand(Works(works.book, works.pots, gates=works.gates)).amounts))

    def test_wrong_rows(self):
        works = Works(example_book(), [("a", row(0, 1, 0)), ("b", row(4, 0, 0))], gates=[("water", "a", "b")])
        for value, at in [*[(value, -1) for value in any_values()], (row(1, 2, 3), -1), (row(1, 2, 3, 4, 5, 6), -1), (list(row(1, 2, 3, 4, 5)), -1),
                          ((1, 2, 3, 4, 5), 0), ((*row(1, 2, 3), (2, 2), None), 3), ((*row(1, 2, 3, 4), (True, 1)), 4)]:
            self.assertEqual(self.raised(InvalidRow, pot_rows, works, value).at, at)
