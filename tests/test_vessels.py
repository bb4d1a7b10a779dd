import unittest

from shutopen.books import Book, wide_book
from shutopen.errors import DifferentWares, InvalidRow, InvalidState, UnknownWare
from shutopen.fills import Fill
from shutopen.kinds import Kind
from shutopen.vessels import Vessel
from tests.helpers import any_values, dot, example_book, example_vessel, frac, fracs, row

STATES = [("shut", (4, 1)), ("shut", (1, 1)), ("open", (5, 2))]


class VesselCase(unittest.TestCase):
    def raised(self, error, function, *values, **more):
        with self.assertRaises(error) as caught:
            function(*values, **more)
        self.assertIs(type(caught.exception), error)
        return caught.exception


class TestVessel(VesselCase):
    def test_attributes(self):
        book = example_book()
        vessel = Vessel(book, STATES)
        self.assertIs(vessel.book, book)
        self.assertEqual(vessel.states, tuple(STATES))
        self.assertIs(type(vessel.states), tuple)
        self.assertEqual(vessel.amounts, row(4, 1, 0))
        self.assertEqual(Vessel(states=tuple(STATES), book=book), vessel)
        other = Vessel(book, [("open", (-1, 3)), ("shut", (-7, 2)), ("shut", (0, 1))])
        self.assertEqual(other.amounts, row(0, "-7/2", 0))

    def test_values_that_are_no_lists_of_the_right_length(self):
        book = example_book()
        for value in [None, True, 3, "abc", {}, {0: 1, 1: 1, 2: 1}, (), [], STATES[:2], [*STATES, STATES[0]], [None] * 4]:
            self.assertEqual(self.raised(InvalidState, Vessel, book, value).at, -1)

    def test_wrong_states_among_right_ones(self):
        book = example_book()
        for state in [None, True, "shut", ("shut",), ("open",), (), ["shut", (1, 1)], ("shut", [1, 1]), ("shut", 1), ("open", 2),
                      ("shut", None), ("open", (2, 4)), ("open", (1, 0)), ("shut", (True, 1)), ("Shut", (1, 1)), ("closed", (1, 1)),
                      ("", (1, 1)), (1, (1, 1)), (("shut",), (1, 1)), ((1, 1), "shut"), ("shut", (1, 1), (1, 1)), {"shut": (1, 1)},
                      (None, (1, 1)), (["open"], (1, 1))]:
            for at in range(3):
                states = list(STATES)
                states[at] = state
                self.assertEqual(self.raised(InvalidState, Vessel, book, states).at, at)
                self.assertEqual(self.raised(InvalidState, Vessel, book, tuple(states)).at, at)
        self.assertEqual(self.raised(InvalidState, Vessel, book, [STATES[0], None, ("open", 1)]).at, 1)

    def test_any_values(self):
        for value in any_values():
            self.assertEqual(self.raised(InvalidState, Vessel, example_book(), value).at, -1)
            self.assertEqual(self.raised(InvalidState, Vessel, example_book(), [STATES[0], value, value]).at, 1)
            if value != "open":
                self.assertEqual(self.raised(InvalidState, Vessel, example_book(), [(value, (1, 1))] * 3).at, 0)

    def test_lists_are_copied(self):
        states = list(STATES)
        vessel = Vessel(example_book(), states)
        states[0] = ("open", (9, 1))
        states.pop()
        self.assertEqual(vessel, example_vessel())

    def test_wares(self):
        vessel = example_vessel()
        self.assertEqual((vessel.shut_wares(), vessel.open_wares()), (("water", "salt"), ("heat",)))
        vessel = example_vessel(("shut", (3, 1)))
        self.assertEqual((vessel.shut_wares(), vessel.open_wares()), (("water", "salt", "heat"), ()))
        vessel = Vessel(example_book(), [("open", (1, 1)), ("shut", (0, 1)), ("open", (0, 1))])
        self.assertEqual((vessel.shut_wares(), vessel.open_wares()), (("salt",), ("water", "heat")))

    def test_state(self):
        vessel = example_vessel()
        self.assertEqual([vessel.state(ware) for ware in ("water", "salt", "heat")], STATES)
        self.assertEqual(vessel.state(ware="heat"), ("open", (5, 2)))
        for value in [*any_values(), "ice", "Heat", 0, ["heat"], ("heat",)]:
            self.assertIs(self.raised(UnknownWare, vessel.state, value).name, value)

    def test_with_state(self):
        vessel = example_vessel()
        changed = vessel.with_state("salt", ("open", (-2, 1))).with_state("heat", ("shut", (8, 1)))
        self.assertEqual(changed.states, (("shut", (4, 1)), ("open", (-2, 1)), ("shut", (8, 1))))
        self.assertEqual(changed.amounts, row(4, 0, 8))
        self.assertEqual(changed.with_state("salt", STATES[1]).with_state(state=STATES[2], ware="heat"), vessel)
        self.assertEqual(vessel.with_state("water", ("shut", (5, 1))).amounts, row(5, 1, 0))
        self.assertEqual(vessel.states, tuple(STATES))

    def test_with_wrong_state(self):
        vessel = example_vessel()
        for value in [*any_values(), "ice", "Heat"]:
            self.assertIs(self.raised(UnknownWare, vessel.with_state, value, None).name, value)
        for at, ware in enumerate(("water", "salt", "heat")):
            for value in [*any_values(), ("shut", 1), ("shut", (2, 4)), ["shut", (1, 1)], ("Open", (1, 1)), ("shut",)]:
                self.assertEqual(self.raised(InvalidState, vessel.with_state, ware, value).at, at)
        self.assertEqual(vessel, example_vessel())

    def test_with_amounts(self):
        vessel = example_vessel()
        changed = vessel.with_amounts(row("1/2", -3, 77))
        self.assertEqual(changed.states, (("shut", (1, 2)), ("shut", (-3, 1)), ("open", (5, 2))))
        self.assertEqual(changed.amounts, row("1/2", -3, 0))
        self.assertEqual(changed.with_amounts(row=row(4, 1, 0)), vessel)
        self.assertEqual(vessel.amounts, row(4, 1, 0))

    def test_with_wrong_amounts(self):
        vessel = example_vessel()
        for value in [None, True, 3, "abc", (), row(1, 1), row(1, 1, 1, 1), list(row(1, 1, 1)), {}]:
            self.assertEqual(self.raised(InvalidRow, vessel.with_amounts, value).at, -1)
        for item in [None, 1, (2, 4), (True, 1), [1, 1]]:
            for at in range(3):
                value = list(row(1, 1, 1))
                value[at] = item
                self.assertEqual(self.raised(InvalidRow, vessel.with_amounts, tuple(value)).at, at)

    def test_with_book(self):
        vessel = example_vessel()
        other = Book(["water", "salt", "heat"], Kind("fog", (1, 1, 1)))
        changed = vessel.with_book(other)
        self.assertEqual((changed.book, changed.states, changed.amounts), (other, tuple(STATES), row(4, 1, 0)))
        self.assertEqual(vessel.with_book(book=other).with_book(example_book()), vessel)
        self.assertEqual(vessel.book, example_book())
        for wares in [["salt", "water", "heat"], ["water", "salt"], ["water", "salt", "cold"], ["water", "salt", "heat", "z"]]:
            self.raised(DifferentWares, vessel.with_book, Book(wares, Kind("fog", (1,) * len(wares))))

    def test_net_costs(self):
        self.assertEqual(example_vessel().net_costs(), row(0, 1, 0, -2, 16))
        self.assertEqual(example_vessel(("shut", (8, 1))).net_costs(), row(0, 6, 0, 18, 46))
        vessel = Vessel(example_book(), [("open", (1, 2)), ("open", (-2, 1)), ("open", (3, 1))])
        self.assertEqual(vessel.net_costs(), row("-1/2", "-1/2", 2, "-11/2", "19/2"))

    def test_fits(self):
        vessel = example_vessel()
        book = example_book()
        self.assertIs(vessel.fits(Fill.of(book, {"ice": (1, 1), "brine": (1, 1)})), True)
        self.assertIs(vessel.fits(fill=Fill.of(book, {"salt": (1, 1), "steam": (4, 1)})), True)
        self.assertIs(vessel.fits(Fill.of(book, {"salt": (1, 1), "steam": (3, 1)})), False)
        self.assertIs(vessel.fits(Fill.of(book, {"ice": (4, 1)})), False)
        self.assertIs(vessel.fits(Fill.of(book, {})), False)
        self.assertIs(vessel.with_amounts(row(0, 0, 0)).fits(Fill.of(book, {})), True)
        self.assertIs(vessel.with_amounts(row(0, 0, 1)).fits(Fill.of(book, {})), True)
        other = book.without("water").with_kind(Kind("fog", (1, 0, 0)))
        self.assertIs(vessel.fits(Fill.of(other, {"ice": (1, 1), "brine": (1, 1)})), False)
        dearer = Book(book.wares, *book.kinds[:4], Kind("steam", (1, 0, 12), cost=(47, 1)))
        self.assertIs(vessel.fits(Fill.of(dearer, {"ice": (1, 1), "brine": (1, 1)})), False)

    def test_other_values_do_not_fit(self):
        for value in [*any_values(), row(1, 0, 0, 1, 0), example_vessel(), {"ice": (1, 1), "brine": (1, 1)}]:
            self.assertIs(example_vessel().fits(value), False)

    def test_burden_of(self):
        vessel = example_vessel()
        for amounts in [{}, {"ice": (1, 1), "brine": (1, 1)}, {"steam": (1, 2), "brine": (2, 3), "water": (7, 1)}]:
            fill = Fill.of(example_book(), amounts)
            self.assertEqual(frac(vessel.burden_of(fill)), dot(fill.parts, vessel.net_costs()))
        self.assertEqual(vessel.burden_of(Fill.of(example_book(), {"ice": (1, 1), "brine": (1, 1)})), (-2, 1))
        self.assertEqual(vessel.burden_of(fill=Fill.of(example_book(), {"steam": (1, 2)})), (8, 1))

    def test_equality(self):
        vessel = example_vessel()
        self.assertTrue(vessel == Vessel(example_book(), tuple(STATES)))
        self.assertFalse(vessel != Vessel(example_book(), tuple(STATES)))
        for other in [example_vessel(("open", (3, 1))), example_vessel(("shut", (5, 2))), vessel.states, vessel.book, None,
                      vessel.with_book(example_book().without("ice")), str(vessel)]:
            self.assertFalse(vessel == other)
            self.assertTrue(vessel != other)

    def test_str_and_repr(self):
        self.assertEqual(str(example_vessel()), "water shut 4, salt shut 1, heat open 5/2")
        self.assertEqual(repr(example_vessel()), "Vessel(2 shut, 1 open)")
        vessel = Vessel(Book(["a"], Kind("a", (1,))), [("open", (-1, 3))])
        self.assertEqual((str(vessel), repr(vessel)), ("a open -1/3", "Vessel(0 shut, 1 open)"))
        vessel = vessel.with_state("a", ("shut", (0, 1)))
        self.assertEqual((str(vessel), repr(vessel)), ("a shut 0", "Vessel(1 shut, 0 open)"))

    def test_vessels_of_wide_books(self):
        book = wide_book(("a.x", "b.x"), [("a.k", (1000, 0), (10 ** 12, 7))])
        vessel = Vessel(book, [("shut", (1, 1)), ("open", (1, 2))]).with_state("b.x", ("shut", (0, 1)))
        self.assertEqual(str(vessel), "a.x shut 1, b.x shut 0")
        self.assertEqual(fracs(vessel.net_costs()), [frac((10 ** 12, 7))])
