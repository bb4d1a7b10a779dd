import random
from fractions import Fraction

from shutopen.books import Book
from shutopen.errors import RunsAway, Unfillable, UnknownPot, UnknownWare
from shutopen.fills import Fill
from shutopen.kinds import Kind
from shutopen.rests import Rest, end_of, rest_of
from shutopen.vessels import Vessel
from shutopen.works import Works
from shutopen.workrests import WorksRest, agreeing, is_works_rest, settled, works_rest
from shutopen.workvessels import put_together, works_vessel
from tests.helpers import Case, any_values, dot, example_book, frac, fracs, pair, row, summed
from tests.test_works import UNKNOWN, random_works

POTS = [("a", row(0, 1, 0)), ("b", row(4, 0, 0))]
DOORS = [("heat", "a", (5, 2)), ("heat", "b", (5, 2))]


def example(**more):
    return Works(example_book(), POTS, doors=DOORS, **more)


def resting_works(seed, many):
    """Random works that rest, with their rests."""
    rnd = random.Random(seed)
    for _ in range(many):
        kinds = [Kind("x", (1, 0), cost=pair(rnd.randint(0, 3))), Kind("y", (0, 1), cost=pair(rnd.randint(0, 3))),
                 Kind("z", (rnd.randint(1, 2), rnd.randint(1, 2)), cost=pair(Fraction(rnd.randint(0, 9), 2))),
                 Kind("u", (rnd.randint(-1, 2), rnd.randint(-1, 2)), cost=pair(rnd.randint(0, 5)))]
        works = random_works(rnd, Book(["a", "b"], *kinds[:rnd.randint(2, 4)]), 3)
        if end_of(works_vessel(works))[0] == "rests":
            yield works


class WorksCase(Case):
    def hold(self, works, fills, flows, rows):
        """Whether fills, flows and rows rest by the last fact of [26], with Python's own fractions."""
        book = works.book
        vessel = works_vessel(works)
        joint = put_together(works, fills, flows)
        contents = summed([kind.as_row() for kind in vessel.book.kinds], joint.parts, len(vessel.states))
        if any(word == "shut" and part != frac(value) for (word, value), part in zip(vessel.states, contents)):
            return False
        for fill, prices in zip(fills, rows):
            for kind, part in zip(book.kinds, fracs(fill.parts)):
                lack = frac(kind.cost) - dot(prices, kind.as_row())
                if lack < 0 or (part > 0 and lack > 0):
                    return False
        price = {(ware, pot): frac(item) for pot, own in zip(works.pot_names(), rows) for ware, item in zip(book.wares, own)}
        if any(price[ware, one] != price[ware, other] for ware, one, other in works.gates):
            return False
        if any(price[ware, pot] != frac(asked) for ware, pot, asked in works.doors):
            return False
        for (ware, source, goal, toll), flow in zip(works.valves, fracs(flows)):
            fall = price[ware, source] - price[ware, goal]
            if fall > frac(toll) or (flow > 0 and fall < frac(toll)):
                return False
        return True


class TestWorksRest(WorksCase):
    def check(self, works):
        found = works_rest(works)
        self.assertIs(type(found), WorksRest)
        self.assertIs(type(found.joint), Rest)
        self.assertEqual((found.plan, found.joint.vessel, found.burden), (works, works_vessel(works), found.joint.burden))
        self.assertEqual((found.joint.fill, found.joint.row), end_of(works_vessel(works))[1:])
        self.assertEqual((type(found.fills), len(found.fills), len(found.flows), type(found.rows), len(found.rows)),
                         (tuple, len(works), len(works.valves), tuple, len(works)))
        self.assertEqual(put_together(works, found.fills, found.flows), found.joint.fill)
        self.assertTrue(self.hold(works, found.fills, found.flows, found.rows))
        self.assertTrue(is_works_rest(works, found.fills, found.flows, found.rows))
        self.assertEqual(repr(found), f"WorksRest({len(works)} pots)")
        again = works_rest(works=Works(works.book, works.pots, gates=works.gates, doors=works.doors, valves=works.valves))
        self.assertEqual((again.fills, again.flows, again.rows, again.burden), (found.fills, found.flows, found.rows, found.burden))
        return found

    def test_gate_of_the_example(self):
        book = example_book()
        found = self.check(example(gates=[("water", "a", "b")]))
        self.assertEqual(found.fills, (Fill.of(book, {"brine": (1, 1)}), Fill.of(book, {"ice": (1, 1)})))
        self.assertEqual([own[:1] for own in found.rows], [row(0), row(0)])
        self.assertEqual((found.rows[0][1], found.flows, found.burden), ((-2, 1), (), (-2, 1)))

    def test_valves_of_the_example(self):
        found = self.check(example(valves=[("water", "b", "a", (1, 4))]))
        self.assertEqual((found.flows, found.burden, [fill.lot for fill in found.fills]), (row(3), (-5, 4), [("brine",), ("ice",)]))
        self.assertEqual((found.rows[0][:2], found.rows[1][0]), (row("-1/4", "-5/4"), (0, 1)))
        found = self.check(example(valves=[("water", "a", "b", (1, 4))]))
        self.assertEqual((found.flows, found.fills[0].lot, found.fills[1].lot), (row(0), ("salt",), ("ice",)))
        self.assertEqual(found.burden, (0, 1))

    def test_random_works(self):
        many = flows = 0
        for works in resting_works(211, 400):
            found = self.check(works)
            many += 1
            flows += any(found.flows[at] != (0, 1) for at in range(len(works.valves)))
        self.assertGreater(many, 60)
        self.assertGreater(flows, 10)

    def test_without_gates_the_rests_of_the_vessels(self):
        for works in resting_works(212, 120):
            alone = Works(works.book, works.pots, doors=works.doors) if not works.gates else None
            if alone is not None and end_of(works_vessel(alone))[0] == "rests":
                found = self.check(alone)
                for (name, amounts), fill in zip(works.pots, found.fills):
                    prices = [alone.price_at(ware, name) for ware in works.book.wares]
                    states = [("shut", amount) if price is None else ("open", price) for amount, price in zip(amounts, prices)]
                    self.assertEqual(fill, rest_of(Vessel(works.book, states)).fill)

    def test_with_gates_for_all_wares_the_one_vessel(self):
        for works in resting_works(213, 120):
            names = works.pot_names()
            gates = [(ware, one, other) for ware in works.book.wares for one, other in zip(names, names[1:])]
            doors = [door for door in works.doors if door[0] == "a"][:1]
            whole = Works(works.book, works.pots, gates=gates, doors=doors)
            total = summed([amounts for _, amounts in works.pots], row(*[1] * len(works)), 2)
            states = [("shut", pair(amount)) for amount in total]
            if doors:
                states[0] = ("open", doors[0][2])
            vessel = Vessel(works.book, states)
            self.assertEqual(end_of(works_vessel(whole))[0], end_of(vessel)[0])
            if end_of(vessel)[0] == "rests":
                found = self.check(whole)
                self.assertEqual(found.burden, rest_of(vessel).burden)
                self.assertTrue(all(own == found.rows[0] for own in found.rows))

    def test_works_that_do_not_rest(self):
        works = example().taken("b", row(5, 0, 0))
        self.assertEqual(self.raised(Unfillable, works_rest, works).row, end_of(works_vessel(works))[1])
        book = Book(["a", "b"], Kind("x", (1, 0), cost=(1, 1)), Kind("y", (0, 1), cost=(1, 1)))
        runs = Works(book, [("p", row(1, 1)), ("q", row(0, 0))], doors=[("a", "q", (2, 1))])
        caught = self.raised(RunsAway, works_rest, runs)
        self.assertEqual(("runs", caught.fill, caught.mixture), end_of(works_vessel(runs)))
        neither = runs.taken("p", row(9, 9))
        self.raised(Unfillable, works_rest, neither)
        for function in (settled, lambda given: agreeing(given, "water", "a", "b")):
            self.raised(Unfillable, function, works)
        self.raised(RunsAway, settled, runs)


class TestIsWorksRest(WorksCase):
    def setUp(self):
        self.works = example(valves=[("water", "b", "a", (1, 4))])
        found = works_rest(self.works)
        self.right = [found.fills, found.flows, found.rows]

    def bent(self, at, value):
        return [value if k == at else part for k, part in enumerate(self.right)]

    def test_right(self):
        self.assertIs(is_works_rest(self.works, *self.right), True)
        self.assertIs(is_works_rest(rows=self.right[2], flows=self.right[1], fills=self.right[0], works=self.works), True)

    def test_any_value(self):
        fills, flows, rows = self.right
        for at in range(3):
            for value in [*any_values(), list(self.right[at]), self.right[at][:-1], (*self.right[at], self.right[at][0])]:
                self.assertIs(is_works_rest(self.works, *self.bent(at, value)), False)
        for value in any_values():
            self.assertIs(is_works_rest(self.works, *self.bent(0, (fills[0], value))), False)
            self.assertIs(is_works_rest(self.works, *self.bent(1, (value,))), False)
            self.assertIs(is_works_rest(self.works, *self.bent(2, (value, rows[1]))), False)
        other = Fill(self.works.book.without("steam"), fills[0].parts[:4])
        self.assertIs(is_works_rest(self.works, *self.bent(0, (other, fills[1]))), False)

    def test_bent_fills_flows_and_rows(self):
        fills, flows, rows = self.right
        book = self.works.book
        bents = [self.bent(0, fills[::-1]), self.bent(1, row(2)), self.bent(1, row(-3)), self.bent(2, rows[::-1]), self.bent(2, (rows[0], rows[0])),
                 self.bent(0, (fills[0] + Fill.of(book, {"ice": (1, 1)}), fills[1])), self.bent(2, (row("-1/4", -2, "5/2"), rows[1])),
                 self.bent(2, (row("-1/4", "-5/4", 2), rows[1])), self.bent(2, (rows[0], row("-1/4", -2, "5/2"))),
                 self.bent(2, (rows[0], row(1, -2, "5/2")))]
        for bent in bents:
            self.assertIs(is_works_rest(self.works, *bent), False)
            self.assertFalse(all(flow[0] >= 0 for flow in bent[1]) and self.hold(self.works, *bent))

    def test_prices_at_gates_and_valves(self):
        gate = example(gates=[("water", "a", "b")])
        found = works_rest(gate)
        self.assertIs(is_works_rest(gate, found.fills, (), found.rows), True)
        self.assertIs(is_works_rest(gate, found.fills, (), (row("-1/4", "-5/4", "5/2"), found.rows[1])), False)
        shut = example(valves=[("water", "a", "b", (1, 4))])
        found = works_rest(shut)
        for price, right in [("-9/10", True), ("-2/3", True), (0, False), ("1/4", False)]:
            rows = (row(price, 0, "5/2"), found.rows[1])
            self.assertIs(is_works_rest(shut, found.fills, row(0), rows), right)
            self.assertEqual(self.hold(shut, found.fills, row(0), rows), right)

    def test_contents_that_are_not_right(self):
        works = self.works.poured("b", row(1, 0, 0))
        self.assertIs(is_works_rest(works, *self.right), False)
        more = (self.right[0][0], self.right[0][1] + Fill.of(works.book, {"ice": (1, 1)}))
        self.assertIs(is_works_rest(works, *self.bent(0, more)), True)
        # What is in open basins does not matter.
        self.assertIs(is_works_rest(self.works.poured("b", row(0, 0, 7)), *self.right), True)

    def test_random_bent(self):
        rnd = random.Random(214)
        count = [0, 0]
        for works in resting_works(215, 150):
            found = works_rest(works)
            fills, flows, rows = list(found.fills), list(found.flows), [list(own) for own in found.rows]
            what = rnd.randrange(3)
            if what == 0:
                fills.reverse()
            if what == 1 and flows:
                flows[-1] = pair(rnd.randint(0, 2))
            if what == 2:
                rows[rnd.randrange(len(rows))][rnd.randrange(2)] = pair(rnd.randint(-2, 2))
            rows = tuple([tuple(own) for own in rows])
            right = is_works_rest(works, tuple(fills), tuple(flows), rows)
            self.assertEqual(right, self.hold(works, fills, tuple(flows), rows))
            count[right] += 1
        self.assertGreater(min(count), 15)


class TestSettled(WorksCase):
    def check(self, works):
        rest = works_rest(works)
        found = settled(works)
        self.assertEqual(settled(works=works), found)
        self.assertEqual((found.book, found.pot_names(), found.gates, found.doors, found.valves),
                         (works.book, works.pot_names(), works.gates, works.doors, works.valves))
        self.assertEqual([amounts for _, amounts in found.pots], [fill.contents for fill in rest.fills])
        # The same fills rest, with flows 0, and the burden is less by what the flows cost.
        still = row(*[0] * len(works.valves))
        self.assertTrue(is_works_rest(found, rest.fills, still, rest.rows))
        costs = fracs(rest.joint.vessel.net_costs()[len(works) * len(works.book):])
        paid = sum(flow * cost for flow, cost in zip(fracs(rest.flows), costs))
        self.assertEqual(frac(works_rest(found).burden), frac(rest.burden) - paid)
        return found, paid

    def test_example(self):
        found, paid = self.check(example(valves=[("water", "b", "a", (1, 4))]))
        self.assertEqual((found.pots, paid), ((("a", row(3, 1, 8)), ("b", row(1, 0, 0))), Fraction(3, 4)))
        self.assertEqual(works_rest(found).burden, (-2, 1))

    def test_random_works(self):
        paid = [self.check(works)[1] for works in resting_works(216, 150)]
        self.assertGreater(sum(item != 0 for item in paid), 5)


class TestAgreeing(WorksCase):
    def check(self, works, ware, one, other):
        found = agreeing(works, ware, one, other)
        self.assertEqual(agreeing(other=other, one=one, ware=ware, works=works), found)
        at = works.book.wares.index(ware)
        if found is not None:
            rest = works_rest(works)
            self.assertIs(type(found), tuple)
            self.assertTrue(self.hold(works, rest.fills, rest.flows, found))
            places = [works.pot_names().index(pot) for pot in (one, other)]
            self.assertEqual(found[places[0]][at], found[places[1]][at])
        return found

    def test_example(self):
        works = example()
        # Salt rests in a only if water is worth at most -2/3 there, but in b it is worth 0.
        self.assertIsNone(self.check(works, "water", "a", "b"))
        self.assertIsNotNone(self.check(works, "heat", "a", "b"))
        self.assertIsNone(self.check(example().with_door("heat", "a", (2, 1)), "heat", "a", "b"))
        gate = example(gates=[("water", "a", "b")])
        self.assertEqual(self.check(gate, "water", "b", "a"), works_rest(gate).rows)
        self.assertIsNone(self.check(example(valves=[("water", "b", "a", (1, 4))]), "water", "a", "b"))
        self.assertEqual(self.check(works, "water", "b", "b"), self.check(works, "heat", "a", "a"))

    def test_gates_put_in_between(self):
        # The fact of [28]: the burden stays just if some best row agrees, otherwise it falls.
        count = [0, 0]
        mixed = 0
        for works in resting_works(217, 250):
            names = works.pot_names()
            if len(names) > 1:
                for ware in works.book.wares:
                    one, other = names[0], names[-1]
                    prices = [works.price_at(ware, pot) for pot in (one, other)]
                    if works.basin(ware, one) != works.basin(ware, other) and (None in prices or prices[0] == prices[1]):
                        joined = works.with_gate(ware, one, other)
                        before = works_rest(works).burden
                        if end_of(works_vessel(joined))[0] != "rests":
                            continue
                        after = frac(works_rest(joined).burden)
                        if prices[0] != prices[1]:
                            shut = one if prices[0] is None else other
                            price = prices[1] if prices[0] is None else prices[0]
                            at = works.book.wares.index(ware)
                            after += frac(price) * sum(frac(works.amounts_of(pot)[at]) for pot in works.basin(ware, shut))
                            mixed += 1
                        same = self.check(works, ware, one, other) is not None
                        self.assertLessEqual(after, frac(before))
                        self.assertEqual(after == frac(before), same)
                        count[same] += 1
        self.assertGreater(min(*count, mixed), 10)

    def test_errors_in_their_order(self):
        works = example().taken("b", row(5, 0, 0))
        for value in UNKNOWN:
            if value not in ("water", "salt", "heat"):
                self.assertEqual(self.raised(UnknownWare, agreeing, works, value, None, None).name, value)
            if value != "a":
                self.assertEqual(self.raised(UnknownPot, agreeing, works, "water", value, None).name, value)
                self.assertEqual(self.raised(UnknownPot, agreeing, works, "water", "a", value).name, value)
        self.assertEqual(self.raised(Unfillable, agreeing, works, "water", "a", "a").row, end_of(works_vessel(works))[1])
