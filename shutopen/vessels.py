"""Vessels: a book, and for each ware whether it is shut or open."""

from shutopen.checks import check_row
from shutopen.errors import DifferentWares, InvalidState
from shutopen.exact import ZERO, fraction_text, minus, product
from shutopen.fills import Fill
from shutopen.words import is_fraction

WORDS = ("shut", "open")


class Vessel:
    """States are pairs of a word and a fraction: the amount of a shut ware, the price of an open one."""

    def __init__(self, book, states):
        check_states(states, len(book.wares))
        self.book = book
        self.states = tuple(states)
        self.amounts = values_of(self.states, "shut")

    def shut_wares(self):
        return tuple([self.book.wares[at] for at in self.shut_places()])

    def open_wares(self):
        return tuple([ware for ware, state in zip(self.book.wares, self.states) if state[0] == "open"])

    def shut_places(self):
        """The list of the indexes of the shut wares."""
        return [at for at, state in enumerate(self.states) if state[0] == "shut"]

    def open_prices(self):
        """The row with the prices of the open wares and 0 at the shut ones."""
        return values_of(self.states, "open")

    def state(self, ware):
        return self.states[self.book.ware_index(ware)]

    def with_state(self, ware, state):
        at = self.book.ware_index(ware)
        return Vessel(self.book, [*self.states[:at], state, *self.states[at + 1:]])

    def with_amounts(self, row):
        check_row(row, len(self.states))
        states = list(self.states)
        for at in self.shut_places():
            states[at] = ("shut", row[at])
        return Vessel(self.book, states)

    def with_book(self, book):
        if book.wares != self.book.wares:
            raise DifferentWares()
        return Vessel(book, self.states)

    def net_costs(self):
        prices = self.open_prices()
        return tuple([minus(kind.cost, product(prices, kind.as_row())) for kind in self.book.kinds])

    def fits(self, fill):
        if not isinstance(fill, Fill) or fill.book != self.book:
            return False
        return all([fill.contents[at] == self.amounts[at] for at in self.shut_places()])

    def burden_of(self, fill):
        return product(fill.parts, self.net_costs())

    def __eq__(self, other):
        return isinstance(other, Vessel) and self.book == other.book and self.states == other.states

    def __str__(self):
        parts = [f"{ware} {word} {fraction_text(value)}" for ware, (word, value) in zip(self.book.wares, self.states)]
        return ", ".join(parts)

    def __repr__(self):
        return f"Vessel({len(self.shut_wares())} shut, {len(self.open_wares())} open)"


def values_of(states, word):
    """The row of the fractions of the states with a word, 0 at the others."""
    return tuple([state[1] if state[0] == word else ZERO for state in states])


def check_states(value, many):
    if not isinstance(value, (list, tuple)) or len(value) != many:
        raise InvalidState(-1)
    for at, state in enumerate(value):
        if not is_state(state):
            raise InvalidState(at)


def is_state(value):
    return isinstance(value, tuple) and len(value) == 2 and value[0] in WORDS and is_fraction(value[1])
