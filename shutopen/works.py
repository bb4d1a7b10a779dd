"""Works: pots with stuff in them, and gates, doors and valves through which wares pass."""

from shutopen.basins import basin_of, doors_in, first_unlike
from shutopen.checks import check_row, first_double, first_wrong
from shutopen.errors import (DuplicateName, InvalidDoor, InvalidFraction, InvalidGate, InvalidName, InvalidPot,
                             InvalidValve, NotOpen, TooMany, UnknownGate, UnknownPot, UnknownValve)
from shutopen.exact import added, scaled
from shutopen.fills import is_amount
from shutopen.words import is_fraction, is_listed, is_name, is_row

MOST_POTS = 4
MOST_GATES = 12
MOST_DOORS = 12
MOST_TOGETHER = 24


class Works:
    """A book, pots with a row of amounts each, and three lists that say how stuff passes."""

    def __init__(self, book, pots, *, gates=(), doors=(), valves=()):
        check_pots(book, pots)
        names = tuple([name for name, _ in pots])
        check_gates(book.wares, names, gates)
        check_doors(book.wares, names, gates, doors)
        check_valves(book.wares, names, valves)
        if is_beyond(len(book), len(names), len(valves)):
            raise TooMany(MOST_TOGETHER)
        self.book = book
        self.pots = tuple(pots)
        self.gates = tuple(gates)
        self.doors = tuple(doors)
        self.valves = tuple(valves)

    def pot_names(self):
        return tuple([name for name, _ in self.pots])

    def pot_place(self, pot):
        """The index of a pot."""
        if not is_listed(pot, self.pot_names()):
            raise UnknownPot(pot)
        return self.pot_names().index(pot)

    def amounts_of(self, pot):
        return self.pots[self.pot_place(pot)][1]

    def basin(self, ware, pot):
        self.check_places(ware, pot)
        return basin_of(self.pot_names(), self.gates, ware, pot)

    def price_at(self, ware, pot):
        doors = doors_in(self.basin(ware, pot), ware, self.doors)
        return doors[0][2] if doors else None

    def with_pot(self, name, row):
        if not is_name(name):
            raise InvalidName(name)
        check_row(row, len(self.book.wares))
        return self.replaced(pots=[*self.pots, (name, row)])

    def poured(self, pot, row):
        at = self.pot_place(pot)
        check_row(row, len(self.book.wares))
        name, amounts = self.pots[at]
        return self.replaced(pots=[*self.pots[:at], (name, added(amounts, row)), *self.pots[at + 1:]])

    def taken(self, pot, row):
        self.pot_place(pot)
        check_row(row, len(self.book.wares))
        return self.poured(pot, scaled(row, (-1, 1)))

    def with_gate(self, ware, one, other):
        self.check_places(ware, one, other)
        return self.replaced(gates=[*self.gates, (ware, one, other)])

    def without_gate(self, ware, one, other):
        self.check_places(ware, one, other)
        gone = ((ware, one, other), (ware, other, one))
        if not any([gate in gone for gate in self.gates]):
            raise UnknownGate(ware)
        return self.replaced(gates=[gate for gate in self.gates if gate not in gone])

    def with_door(self, ware, pot, price):
        basin = self.basin(ware, pot)
        if not is_fraction(price):
            raise InvalidFraction()
        found = []
        for door in self.doors:
            found.append((ware, door[1], price) if door[0] == ware and door[1] in basin else door)
        return self.replaced(doors=[*found, (ware, pot, price)])

    def with_shut(self, ware, pot):
        gone = doors_in(self.basin(ware, pot), ware, self.doors)
        if not gone:
            raise NotOpen(ware)
        return self.replaced(doors=[door for door in self.doors if door not in gone])

    def with_valve(self, ware, source, goal, toll):
        self.check_places(ware, source, goal)
        if source == goal:
            raise InvalidValve(len(self.valves))
        if not is_amount(toll):
            raise InvalidFraction()
        at = self.valve_place(ware, source, goal)
        if at is None:
            return self.replaced(valves=[*self.valves, (ware, source, goal, toll)])
        return self.replaced(valves=[*self.valves[:at], (ware, source, goal, toll), *self.valves[at + 1:]])

    def without_valve(self, ware, source, goal):
        self.check_places(ware, source, goal)
        at = self.valve_place(ware, source, goal)
        if at is None:
            raise UnknownValve(ware)
        return self.replaced(valves=self.valves[:at] + self.valves[at + 1:])

    def valve_place(self, ware, source, goal):
        """The index of the valve with a ware, a source and a goal, None if there is none."""
        for at, valve in enumerate(self.valves):
            if valve[:3] == (ware, source, goal):
                return at
        return None

    def replaced(self, *, pots=None, gates=None, doors=None, valves=None):
        """The works with other lists in the place of some of its own."""
        return Works(self.book, self.pots if pots is None else pots, gates=self.gates if gates is None else gates,
                     doors=self.doors if doors is None else doors, valves=self.valves if valves is None else valves)

    def check_places(self, ware, *pots):
        self.book.ware_index(ware)
        for pot in pots:
            self.pot_place(pot)

    def __eq__(self, other):
        if not isinstance(other, Works) or self.book != other.book or self.pots != other.pots:
            return False
        return self.gates == other.gates and self.doors == other.doors and self.valves == other.valves

    def __len__(self):
        return len(self.pots)

    def __repr__(self):
        return f"Works({len(self.pots)} pots)"


def check_pots(book, value):
    at = first_wrong(value, lambda pot: is_pot(pot, len(book.wares))) if value else -1
    if at is not None:
        raise InvalidPot(at)
    double = first_double([name for name, _ in value])
    if double is not None:
        raise DuplicateName(value[double][0])
    if len(value) > MOST_POTS:
        raise TooMany(MOST_POTS)


def check_gates(wares, names, value):
    at = first_wrong(value, lambda gate: is_gate(gate, wares, names))
    if at is not None:
        raise InvalidGate(at)
    if len(value) > MOST_GATES:
        raise TooMany(MOST_GATES)


def check_doors(wares, names, gates, value):
    at = first_wrong(value, lambda door: is_door(door, wares, names))
    if at is not None:
        raise InvalidDoor(at)
    if len(value) > MOST_DOORS:
        raise TooMany(MOST_DOORS)
    unlike = first_unlike(names, gates, value)
    if unlike is not None:
        raise InvalidDoor(unlike)


def check_valves(wares, names, value):
    at = first_wrong(value, lambda valve: is_valve(valve, wares, names))
    if at is None:
        at = first_double([valve[:3] for valve in value])
    if at is not None:
        raise InvalidValve(at)


def is_beyond(kinds, pots, valves):
    """Whether so many kinds, pots and valves are too many together."""
    return pots * kinds + valves > MOST_TOGETHER


def is_pot(value, many):
    return isinstance(value, tuple) and len(value) == 2 and is_name(value[0]) and is_row(value[1], many)


def is_gate(value, wares, names):
    return isinstance(value, tuple) and len(value) == 3 and is_passage(value, wares, names)


def is_door(value, wares, names):
    if not isinstance(value, tuple) or len(value) != 3:
        return False
    return is_listed(value[0], wares) and is_listed(value[1], names) and is_fraction(value[2])


def is_valve(value, wares, names):
    if not isinstance(value, tuple) or len(value) != 4:
        return False
    return is_passage(value[:3], wares, names) and is_amount(value[3])


def is_passage(value, wares, names):
    """Whether a triple is a ware and two different pots."""
    ware, one, other = value
    return is_listed(ware, wares) and is_listed(one, names) and is_listed(other, names) and one != other
