import random

from shutopen.books import Book, wide_book
from shutopen.errors import (DuplicateName, InvalidDoor, InvalidFraction, InvalidGate, InvalidName, InvalidPot, InvalidRow, InvalidValve,
                             NotOpen, TooMany, UnknownGate, UnknownPot, UnknownValve, UnknownWare)
from shutopen.kinds import Kind
from shutopen.works import Works
from tests.helpers import Case, any_values, example_book, pair, row, wide_kinds

WARES = ("water", "salt", "heat")
POTS = [("a", row(0, 1, 0)), ("b", row(4, 0, 0)), ("c", row(-1, "1/2", 3))]
UNKNOWN = [*any_values(), "", "A", "waters", ["a"], ("a",), ["water"], ("water",)]


def small_book(many=1):
    return Book(["water", "salt", "heat"], *[Kind(f"k{'abcdefghij'[at]}", (1, at, -at)) for at in range(many)])


def three_pots(**more):
    return Works(small_book(), POTS, **more)


def basin_by_hand(names, gates, ware, pot):
    """The pots of a basin, by joining groups of pots until no gate joins two of them."""
    groups = [{name} for name in names]
    for _ in names:
        for own, one, other in gates:
            if own == ware:
                mine = [group for group in groups if one in group or other in group]
                groups = [group for group in groups if group not in mine] + [set().union(*mine)]
    group = next(group for group in groups if pot in group)
    return tuple(name for name in names if name in group)


def random_gates(rnd, names, many):
    return [(rnd.choice(WARES), *rnd.sample(names, 2)) for _ in range(many if len(names) > 1 else 0)]


def random_works(rnd, book=None, most=4):
    """A works of the book with gates, doors that agree, and valves."""
    book = small_book(rnd.randint(1, 3)) if book is None else book
    names = list("abcd")[:rnd.randint(1, most)]
    wares = book.wares
    gates = [(rnd.choice(wares), *rnd.sample(names, 2)) for _ in range(rnd.randint(0, 3) if len(names) > 1 else 0)]
    prices = {}
    doors = []
    for _ in range(rnd.randint(0, 3)):
        ware, pot = rnd.choice(wares), rnd.choice(names)
        place = (ware, basin_by_hand(names, gates, ware, pot))
        doors.append((ware, pot, prices.setdefault(place, pair(rnd.randint(-2, 3)))))
    valves = []
    for _ in range(rnd.randint(0, 2) if len(names) > 1 else 0):
        place = (rnd.choice(wares), *rnd.sample(names, 2))
        if place not in [valve[:3] for valve in valves]:
            valves.append((*place, pair(rnd.randint(0, 2))))
    pots = [(name, row(*[rnd.randint(-1, 4) for _ in wares])) for name in names]
    return Works(book, pots, gates=gates, doors=doors, valves=valves)


class TestMaking(Case):
    def test_attributes(self):
        gates = [("water", "b", "a"), ("water", "a", "b"), ("heat", "a", "c")]
        doors = [("heat", "c", (1, 2)), ("heat", "a", (1, 2)), ("heat", "a", (1, 2)), ("salt", "b", (-3, 1))]
        valves = [("salt", "a", "b", (0, 1)), ("salt", "b", "a", (1, 3))]
        pots = list(POTS)
        works = Works(small_book(), pots, gates=gates, doors=doors, valves=valves)
        self.assertEqual((works.book, works.pots, works.gates, works.doors, works.valves),
                         (small_book(), tuple(POTS), tuple(gates), tuple(doors), tuple(valves)))
        for values in (pots, gates, doors, valves):
            values.clear()
        self.assertEqual((len(works.pots), len(works.gates), len(works.doors), len(works.valves)), (3, 3, 4, 2))
        self.assertEqual((len(works), repr(works), works.pot_names()), (3, "Works(3 pots)", ("a", "b", "c")))
        again = Works(small_book(), works.pots, gates=works.gates, doors=works.doors, valves=works.valves)
        self.assertEqual(again, works)
        plain = Works(book=small_book(), pots=(POTS[1],))
        self.assertEqual((plain.gates, plain.doors, plain.valves, repr(plain)), ((), (), (), "Works(1 pots)"))
        with self.assertRaises(TypeError):
            Works(small_book(), POTS, [])

    def test_equal(self):
        one = three_pots(gates=[("water", "a", "b")], doors=[("heat", "a", (1, 1)), ("salt", "b", (1, 1))],
                         valves=[("salt", "a", "b", (1, 1)), ("salt", "b", "a", (1, 1))])
        same = dict(gates=one.gates, doors=one.doors, valves=one.valves)
        others = [Works(small_book(2), POTS, **same), Works(small_book(), POTS[::-1], **same), Works(small_book(), [*POTS, ("d", row(0, 0, 0))], **same),
                  Works(small_book(), POTS, **{**same, "gates": [("water", "b", "a")]}), Works(small_book(), POTS, **{**same, "gates": ()}),
                  Works(small_book(), POTS, **{**same, "doors": one.doors[::-1]}), Works(small_book(), POTS, **{**same, "valves": one.valves[::-1]}),
                  Works(small_book(), [("a", row(0, 1, 1)), *POTS[1:]], **same)]
        self.assertEqual(one, Works(small_book(), list(POTS), **same))
        for other in [*others, *any_values()]:
            self.assertNotEqual(one, other)

    def test_wrong_pots(self):
        right = ("a", row(1, 2, 3))
        for value in [value for value in any_values() if not isinstance(value, (list, tuple))] + [(), []]:
            self.assertEqual(self.raised(InvalidPot, Works, small_book(), value).at, -1)
        wrongs = [*any_values(), ("a",), ("a", row(1, 2, 3), 1), ["a", row(1, 2, 3)], ("A", row(1, 2, 3)), ("toolong", row(1, 2, 3)),
                  (1, row(1, 2, 3)), ("a", row(1, 2)), ("a", row(1, 2, 3, 4)), ("a", list(row(1, 2, 3))), ("a", (1, 2, 3)),
                  ("a", ((1, 1), (2, 2), (3, 1))), ("a", None), (["a"], row(1, 2, 3))]
        for wrong in wrongs:
            self.assertEqual(self.raised(InvalidPot, Works, small_book(), [wrong]).at, 0)
            self.assertEqual(self.raised(InvalidPot, Works, small_book(), [right] * 4 + [wrong, None], gates=7).at, 4)

    def test_pots_that_stand_ahead_and_too_many(self):
        pots = [(name, row(0, 0, 0)) for name in ("a", "b", "a", "b", "c")]
        self.assertEqual(self.raised(DuplicateName, Works, small_book(), pots, gates=None).name, "a")
        self.assertEqual(self.raised(DuplicateName, Works, small_book(), [pots[1], pots[0], pots[4], pots[4]]).name, "c")
        five = [(name, row(0, 0, 0)) for name in "abcde"]
        self.assertEqual(self.raised(TooMany, Works, small_book(), five, gates=None).most, 4)
        self.assertEqual(len(Works(small_book(), five[:4])), 4)

    def check_wrong_items(self, error, word, right, wrongs):
        for value in [value for value in any_values() if not isinstance(value, (list, tuple))]:
            self.assertEqual(self.raised(error, three_pots, **{word: value}).at, -1)
        for wrong in [*any_values(), *wrongs]:
            self.assertEqual(self.raised(error, three_pots, **{word: [wrong]}).at, 0)
            self.assertEqual(self.raised(error, three_pots, **{word: (*[right] * 13, wrong, None)}).at, 13)

    def test_wrong_gates(self):
        right = ("water", "a", "b")
        self.check_wrong_items(InvalidGate, "gates", right, [
            (), ("water", "a"), (*right, 1), list(right), ("waters", "a", "b"), ("water", "a", "a"), ("water", "d", "a"), ("water", "a", "d"),
            (None, "a", "b"), ("water", ["a"], "b"), ("water", "a", ["b"]), (["water"], "a", "b"), ("a", "a", "b"), ("water", "a", True)])
        self.assertEqual(self.raised(TooMany, three_pots, gates=[right] * 13, doors=None).most, 12)
        self.assertEqual(len(three_pots(gates=[right] * 12).gates), 12)

    def test_wrong_doors(self):
        right = ("water", "a", (1, 1))
        self.check_wrong_items(InvalidDoor, "doors", right, [
            (), ("water", "a"), (*right, 1), list(right), ("waters", "a", (1, 1)), ("water", "d", (1, 1)), ("water", "a", 1), ("water", "a", (2, 2)),
            ("water", "a", [1, 1]), ("water", "a", (True, 1)), (["water"], "a", (1, 1)), ("water", None, (1, 1)), ("water", "a", "b")])
        self.assertEqual(self.raised(TooMany, three_pots, doors=[right] * 13, valves=None).most, 12)
        self.assertEqual(len(three_pots(doors=[right] * 12).doors), 12)

    def test_doors_with_another_price(self):
        one, other = ("water", "a", (1, 1)), ("water", "a", (1, 2))
        self.assertEqual(self.raised(InvalidDoor, three_pots, doors=[one, one, other, one], valves=None).at, 2)
        joined = dict(gates=[("water", "c", "b"), ("salt", "a", "b"), ("water", "a", "c")])
        doors = [one, ("salt", "a", (3, 1)), ("salt", "b", (3, 1)), ("heat", "a", (4, 1)), ("heat", "b", (5, 1)), ("water", "b", (2, 1))]
        self.assertEqual(self.raised(InvalidDoor, three_pots, doors=doors, **joined).at, 5)
        self.assertEqual(self.raised(InvalidDoor, three_pots, doors=doors[::-1], **joined).at, 5)
        self.assertEqual(len(three_pots(doors=doors).doors), 6)
        # Too many doors go ahead of those at odds, a door that is none goes ahead of both.
        self.assertEqual(self.raised(TooMany, three_pots, doors=[one, other] * 7).most, 12)
        self.assertEqual(self.raised(InvalidDoor, three_pots, doors=[one, other] * 7 + [None]).at, 14)

    def test_wrong_valves(self):
        right = ("water", "a", "b", (1, 1))
        self.check_wrong_items(InvalidValve, "valves", right, [
            (), ("water", "a", "b"), (*right, 1), list(right), ("waters", "a", "b", (1, 1)), ("water", "a", "a", (1, 1)), ("water", "d", "a", (1, 1)),
            ("water", "a", "d", (1, 1)), ("water", "a", "b", (-1, 1)), ("water", "a", "b", 1), ("water", "a", "b", (2, 2)), ("water", "a", "b", None),
            (["water"], "a", "b", (1, 1)), ("water", ["a"], "b", (1, 1)), ("water", "a", ["b"], (1, 1)), ("water", "a", "b", (True, 1))])
        self.assertEqual(self.raised(InvalidValve, three_pots, valves=[right, ("water", "b", "a", (1, 1)), ("water", "a", "b", (2, 1)), right]).at, 2)
        self.assertEqual(self.raised(InvalidValve, three_pots, valves=[right, right, None]).at, 2)
        self.assertEqual(three_pots(valves=[("water", "a", "b", (0, 1))]).valves, (("water", "a", "b", (0, 1)),))

    def test_the_sum_of_pots_times_kinds_and_valves(self):
        valves = [(ware, one, other, (0, 1)) for ware in WARES for one in "abc" for other in "abc" if one != other]
        self.assertEqual(len(three_pots(valves=valves).valves), 18)
        seven = small_book(7)
        self.assertEqual(len(Works(seven, POTS, valves=valves[:3]).valves), 3)
        self.assertEqual(self.raised(TooMany, Works, seven, POTS, valves=valves[:4]).most, 24)
        self.assertEqual(self.raised(InvalidValve, Works, seven, POTS, valves=[valves[0]] * 30).at, 1)
        self.assertEqual(len(Works(small_book(8), POTS)), 3)
        self.assertEqual(self.raised(TooMany, Works, small_book(9), POTS).most, 24)
        self.assertEqual(self.raised(TooMany, Works, small_book(8), POTS, valves=valves[:1]).most, 24)
        zeros = row(0, 0, 0)
        self.assertEqual(len(Works(wide_kinds(24), [("a", zeros)])), 1)
        self.assertEqual(self.raised(TooMany, Works, wide_kinds(25), [("a", zeros)]).most, 24)
        self.assertEqual(len(Works(small_book(6), [(name, zeros) for name in "abcd"])), 4)
        self.assertEqual(self.raised(TooMany, Works, small_book(7), [(name, zeros) for name in "abcd"]).most, 24)


class TestReading(Case):
    def test_amounts(self):
        works = three_pots()
        for name, amounts in POTS:
            self.assertEqual(works.amounts_of(name), amounts)
        self.assertEqual(works.amounts_of(pot="b"), row(4, 0, 0))
        for value in UNKNOWN:
            if value != "a":
                self.assertEqual(self.raised(UnknownPot, works.amounts_of, value).name, value)

    def test_basins(self):
        works = three_pots(gates=[("water", "c", "a"), ("salt", "b", "c"), ("salt", "c", "a"), ("salt", "b", "c")])
        self.assertEqual([works.basin("water", pot) for pot in "abc"], [("a", "c"), ("b",), ("a", "c")])
        self.assertEqual([works.basin(ware="salt", pot=pot) for pot in "abc"], [("a", "b", "c")] * 3)
        self.assertEqual([works.basin("heat", pot) for pot in "abc"], [("a",), ("b",), ("c",)])

    def test_random_basins(self):
        rnd = random.Random(181)
        sizes = {}
        for _ in range(200):
            names = list("dcba")[:rnd.randint(1, 4)]
            gates = random_gates(rnd, names, rnd.randint(0, 6))
            works = Works(small_book(), [(name, row(0, 0, 0)) for name in names], gates=gates)
            for ware in WARES:
                for pot in names:
                    found = works.basin(ware, pot)
                    self.assertEqual(found, basin_by_hand(names, gates, ware, pot))
                    sizes[len(found)] = sizes.get(len(found), 0) + 1
        self.assertGreater(min(sizes[size] for size in (1, 2, 3, 4)), 10)

    def test_prices(self):
        works = three_pots(gates=[("water", "c", "a"), ("heat", "a", "b")], doors=[("water", "c", (0, 1)), ("heat", "b", (5, 2)), ("heat", "c", (3, 1))])
        self.assertEqual([works.price_at("water", pot) for pot in "abc"], [(0, 1), None, (0, 1)])
        self.assertEqual([works.price_at(ware="heat", pot=pot) for pot in "abc"], [(5, 2), (5, 2), (3, 1)])
        self.assertEqual([works.price_at("salt", pot) for pot in "abc"], [None] * 3)

    def test_unknown_names(self):
        works = three_pots(doors=[("water", "a", (1, 1))], gates=[("water", "a", "b")], valves=[("water", "a", "b", (1, 1))])
        two = (works.basin, works.price_at, works.with_shut)
        three = (works.with_gate, works.without_gate, works.without_valve)
        for value in UNKNOWN:
            for name, function, more in [*[("two", function, ()) for function in two], ("two", works.with_door, (None,)),
                                         *[("three", function, ()) for function in three], ("three", works.with_valve, (None,))]:
                pots = (value,) if name == "two" else (value, value)
                if value not in WARES:
                    self.assertEqual(self.raised(UnknownWare, function, value, *pots, *more).name, value)
                if value != "a":
                    self.assertEqual(self.raised(UnknownPot, function, "water", *pots, *more).name, value)
                    if name == "three":
                        self.assertEqual(self.raised(UnknownPot, function, "water", "a", value, *more).name, value)
                        self.assertEqual(self.raised(UnknownPot, function, "water", value, "d", *more).name, value)


class TestPots(Case):
    def test_with_pot(self):
        works = three_pots(gates=[("water", "a", "b")], valves=[("water", "a", "b", (1, 1))])
        more = works.with_pot("main", row(1, -2, 0))
        self.assertEqual(more, Works(small_book(), [*POTS, ("main", row(1, -2, 0))], gates=works.gates, valves=works.valves))
        self.assertEqual(len(works), 3)
        self.assertEqual(works.with_pot(row=row(0, 0, 0), name="z").pot_names(), ("a", "b", "c", "z"))

    def test_errors_in_their_order(self):
        full = three_pots().with_pot("d", row(0, 0, 0))
        for value in [*any_values(), "Main", "a1"]:
            if value not in ("open", "word"):
                self.assertEqual(self.raised(InvalidName, full.with_pot, value, None).name, value)
        for value, at in [(None, -1), (row(1, 2), -1), ([(1, 1)] * 3, -1), (((1, 1), 7, None), 1)]:
            self.assertEqual(self.raised(InvalidRow, full.with_pot, "a", value).at, at)
        self.assertEqual(self.raised(DuplicateName, full.with_pot, "c", row(0, 0, 0)).name, "c")
        self.assertEqual(self.raised(TooMany, full.with_pot, "e", row(0, 0, 0)).most, 4)
        works = Works(small_book(8), POTS)
        self.assertEqual(self.raised(DuplicateName, works.with_pot, "a", row(0, 0, 0)).name, "a")
        self.assertEqual(self.raised(TooMany, works.with_pot, "d", row(0, 0, 0)).most, 24)
        four = Works(small_book(6), [*POTS, ("d", row(0, 0, 0))])
        self.assertEqual(self.raised(TooMany, four.with_pot, "e", row(0, 0, 0)).most, 4)
        tight = Works(small_book(7), POTS[:2], valves=[("water", "a", "b", (1, 1))] + [("salt", "a", "b", (1, 1)), ("heat", "a", "b", (1, 1))])
        self.assertEqual(len(tight.with_pot("c", row(0, 0, 0))), 3)
        self.assertEqual(self.raised(TooMany, tight.with_valve("heat", "b", "a", (0, 1)).with_pot, "c", row(0, 0, 0)).most, 24)

    def test_poured_and_taken(self):
        works = three_pots(gates=[("water", "a", "b")], doors=[("heat", "c", (1, 1))])
        self.assertEqual(works.poured("b", row(-5, "1/2", 1)).pots, (POTS[0], ("b", row(-1, "1/2", 1)), POTS[2]))
        self.assertEqual(works.taken("c", row(1, 1, "1/3")).pots, (*POTS[:2], ("c", row(-2, "-1/2", "8/3"))))
        self.assertEqual(works.poured(row=row(1, 1, 1), pot="a").taken(row=row(1, 1, 1), pot="a"), works)
        self.assertEqual((works.pots, works.poured("a", row(0, 0, 0))), (tuple(POTS), works))
        far = (10 ** 30, 7)
        self.assertEqual(works.poured("a", (far, far, far)).amounts_of("a")[0], far)

    def test_wrong_pouring(self):
        works = three_pots()
        for function in (works.poured, works.taken):
            for value in UNKNOWN:
                if value != "a":
                    self.assertEqual(self.raised(UnknownPot, function, value, None).name, value)
            for value, at in [(None, -1), (row(1, 2), -1), ([(1, 1)] * 3, -1), (((1, 1), (1, 1), (2, 2)), 2), ((0, 1, 2), 0)]:
                self.assertEqual(self.raised(InvalidRow, function, "a", value).at, at)


class TestGates(Case):
    def test_with_gate(self):
        works = three_pots(doors=[("heat", "a", (1, 1)), ("heat", "b", (2, 1))])
        more = works.with_gate("water", "b", "a").with_gate(other="b", one="a", ware="water")
        self.assertEqual(more.gates, (("water", "b", "a"), ("water", "a", "b")))
        self.assertEqual(more.with_gate("heat", "b", "c").basin("heat", "c"), ("b", "c"))
        self.assertEqual(works.gates, ())

    def test_errors_in_their_order(self):
        works = three_pots(doors=[("heat", "a", (1, 1)), ("salt", "a", (9, 1)), ("heat", "b", (2, 1)), ("heat", "b", (2, 1))], gates=[("water", "a", "b")] * 11)
        self.assertEqual(self.raised(InvalidGate, works.with_gate, "heat", "a", "a").at, 11)
        self.assertEqual(self.raised(InvalidDoor, works.with_gate, "heat", "a", "b").at, 2)
        self.assertEqual(self.raised(InvalidDoor, works.with_gate("heat", "c", "b").without_gate("water", "a", "b").with_gate, "heat", "a", "c").at, 2)
        full = works.with_gate("water", "a", "c")
        self.assertEqual(self.raised(InvalidGate, full.with_gate, "water", "c", "c").at, 12)
        self.assertEqual(self.raised(TooMany, full.with_gate, "heat", "a", "b").most, 12)
        self.assertEqual(self.raised(TooMany, full.with_gate, "water", "a", "b").most, 12)

    def test_walls(self):
        gates = [("water", "a", "b"), ("salt", "a", "b"), ("water", "b", "a"), ("water", "b", "c"), ("water", "a", "b")]
        works = three_pots(gates=gates)
        self.assertEqual(works.without_gate("water", "b", "a").gates, (gates[1], gates[3]))
        self.assertEqual(works.without_gate(other="b", one="a", ware="water"), works.without_gate("water", "b", "a"))
        self.assertEqual(works.without_gate("water", "c", "b").gates, (*gates[:3], gates[4]))
        # a and c are in one basin, but there is no gate between just these two.
        self.assertEqual(works.basin("water", "a"), ("a", "b", "c"))
        for ware, one, other in [("water", "a", "c"), ("heat", "a", "b"), ("water", "a", "a"), ("salt", "b", "c")]:
            self.assertEqual(self.raised(UnknownGate, works.without_gate, ware, one, other).ware, ware)
        self.assertEqual(works.gates, tuple(gates))

    def test_walls_leave_doors_where_they_are(self):
        works = three_pots(gates=[("heat", "a", "b")], doors=[("heat", "b", (1, 1))])
        self.assertEqual([works.price_at("heat", pot) for pot in "abc"], [(1, 1), (1, 1), None])
        works = works.without_gate("heat", "a", "b")
        self.assertEqual([works.price_at("heat", pot) for pot in "abc"], [None, (1, 1), None])


class TestDoors(Case):
    def test_with_door(self):
        doors = [("heat", "a", (1, 1)), ("heat", "c", (7, 1)), ("salt", "a", (3, 1)), ("heat", "b", (1, 1))]
        works = three_pots(gates=[("heat", "b", "a")], doors=doors)
        more = works.with_door("heat", "b", (2, 1))
        self.assertEqual(more.doors, (("heat", "a", (2, 1)), doors[1], doors[2], ("heat", "b", (2, 1)), ("heat", "b", (2, 1))))
        self.assertEqual((more.price_at("heat", "a"), more.price_at("heat", "c"), works.doors), ((2, 1), (7, 1), tuple(doors)))
        self.assertEqual(works.with_door(price=(-1, 2), pot="a", ware="water").doors, (*doors, ("water", "a", (-1, 2))))
        self.assertEqual(works.with_door("heat", "a", (1, 1)).doors, (*doors, ("heat", "a", (1, 1))))

    def test_errors_in_their_order(self):
        works = three_pots(doors=[("heat", "a", (1, 1))] * 12)
        for value in [*any_values(), 1, (2, 4)]:
            self.raised(InvalidFraction, works.with_door, "heat", "a", value)
        self.assertEqual(self.raised(TooMany, works.with_door, "heat", "a", (2, 1)).most, 12)
        self.assertEqual(len(three_pots(doors=[("heat", "a", (1, 1))] * 11).with_door("heat", "a", (9, 1)).doors), 12)

    def test_shutting(self):
        doors = [("heat", "a", (1, 1)), ("heat", "c", (7, 1)), ("salt", "a", (1, 1)), ("heat", "b", (1, 1)), ("heat", "a", (1, 1))]
        works = three_pots(gates=[("heat", "b", "a")], doors=doors)
        self.assertEqual(works.with_shut("heat", "b").doors, (doors[1], doors[2]))
        self.assertEqual(works.with_shut(pot="c", ware="heat").doors, (doors[0], *doors[2:]))
        self.assertEqual(works.with_shut("heat", "a"), works.with_shut("heat", "b"))
        for ware, pot in [("water", "a"), ("salt", "b")]:
            self.assertEqual(self.raised(NotOpen, works.with_shut, ware, pot).ware, ware)
        self.assertEqual(self.raised(NotOpen, works.with_shut("heat", "b").with_shut, "heat", "a").ware, "heat")


class TestValves(Case):
    def test_with_valve(self):
        valves = [("water", "a", "b", (1, 1)), ("salt", "a", "b", (2, 1))]
        works = three_pots(valves=valves)
        self.assertEqual(works.with_valve("water", "b", "a", (0, 1)).valves, (*valves, ("water", "b", "a", (0, 1))))
        self.assertEqual(works.with_valve(toll=(5, 2), goal="b", source="a", ware="water").valves, (("water", "a", "b", (5, 2)), valves[1]))
        self.assertEqual(works.valves, tuple(valves))

    def test_errors_in_their_order(self):
        valves = [(ware, one, other, (0, 1)) for ware in WARES for one in "abc" for other in "abc" if one != other]
        works = Works(small_book(7), POTS, valves=valves[:3])
        self.assertEqual(self.raised(InvalidValve, works.with_valve, "heat", "b", "b", None).at, 3)
        for value in [*any_values(), 0, (0, 2), (-1, 1)]:
            self.raised(InvalidFraction, works.with_valve, "heat", "b", "a", value)
            self.raised(InvalidFraction, works.with_valve, *valves[0][:3], value)
        self.assertEqual(self.raised(TooMany, works.with_valve, "heat", "b", "a", (0, 1)).most, 24)
        self.assertEqual(works.with_valve(*valves[2][:3], (7, 1)).valves, (*valves[:2], (*valves[2][:3], (7, 1))))

    def test_without_valve(self):
        valves = [("water", "a", "b", (1, 1)), ("salt", "a", "b", (2, 1)), ("water", "b", "a", (3, 1))]
        works = three_pots(valves=valves)
        self.assertEqual(works.without_valve("salt", "a", "b").valves, (valves[0], valves[2]))
        self.assertEqual(works.without_valve(goal="a", source="b", ware="water").valves, tuple(valves[:2]))
        for ware, source, goal in [("salt", "b", "a"), ("heat", "a", "b"), ("water", "a", "a"), ("water", "a", "c")]:
            self.assertEqual(self.raised(UnknownValve, works.without_valve, ware, source, goal).ware, ware)
        self.assertEqual(works.valves, tuple(valves))


class TestWholeWorks(Case):
    def test_nothing_is_changed(self):
        rnd = random.Random(182)
        for _ in range(50):
            works = random_works(rnd)
            same = Works(works.book, works.pots, gates=works.gates, doors=works.doors, valves=works.valves)
            pot = rnd.choice(works.pot_names())
            works.poured(pot, row(1, 1, 1)).with_door("heat", pot, (3, 1)).with_shut("heat", pot)
            self.assertEqual(works, same)

    def test_wide_books(self):
        book = wide_book(("a.a", "b.b"), [("x.x", (1, 2), (10 ** 9, 1))])
        works = Works(book, [("p", row(1, 2)), ("q", row(0, 0))], gates=[("a.a", "p", "q")], doors=[("b.b", "q", (1, 1))])
        self.assertEqual((works.basin("a.a", "q"), works.price_at("b.b", "q"), works.price_at("b.b", "p")), (("p", "q"), (1, 1), None))

    def test_example_book(self):
        works = Works(example_book(), [("a", row(0, 1, 0)), ("b", row(4, 0, 0))], doors=[("heat", "a", (5, 2)), ("heat", "b", (5, 2))])
        self.assertEqual(len(works.with_valve("water", "b", "a", (1, 4)).valves), 1)
