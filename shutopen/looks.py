"""Looks and sayings: what is known of the costs of a book, and what follows from it.

The unknowns are the costs of the kinds, and behind them for each look the prices that were not noted. A line is a
pair of a row and a limit: the product of the row and the unknowns is at most the limit.
"""

from shutopen.books import wide_book
from shutopen.checks import check_row, first_double, first_wrong
from shutopen.errors import Clash, InvalidFraction, InvalidLook, InvalidSaying, TooMany
from shutopen.exact import ZERO, minus, negative, product, scaled, zeros
from shutopen.limits import held_under, met_lines, turned
from shutopen.shutrows import at_places, with_items
from shutopen.words import is_fraction, is_listed, is_row

MOST_LOOKS = 4
MOST_SAYINGS = 6


class Looks:
    """What was seen at rest together under noted prices, and what is said of sums of costs."""

    def __init__(self, book, *, looks=(), sayings=()):
        check_looks(book, looks)
        check_sayings(book, sayings)
        self.book = book
        self.looks = tuple([(book.ordered(lot), prices) for lot, prices in looks])
        self.sayings = tuple(sayings)

    def lines(self):
        tables = [self.lines_under(at) for at in range(len(self.looks))]
        found = [line for table in tables for line in table]
        for (lot, _), table in zip(self.looks, tables):
            found.extend([turned(table[at]) for at, name in enumerate(self.book.names) if name in lot])
        for weights, low, high in self.sayings:
            row = (*weights, *zeros(self.width() - len(weights)))
            if low is not None:
                found.append(turned((row, low)))
            if high is not None:
                found.append((row, high))
        return found

    def with_look(self, look):
        if not is_look(self.book, look):
            raise InvalidLook(len(self.looks))
        lot, prices = look
        return unchecked_looks(self.book, [*self.looks, (self.book.ordered(lot), prices)], self.sayings)

    def with_saying(self, saying):
        if not is_saying(self.book, saying):
            raise InvalidSaying(len(self.sayings))
        return unchecked_looks(self.book, self.looks, [*self.sayings, saying])

    def fit(self):
        word, found = met_lines(self.lines(), self.width())
        if word == "broken":
            return ("clash", found)
        return ("fit", found[:len(self.book)], tuple([self.price_row(at, found) for at in range(len(self.looks))]))

    def fits_with(self, costs):
        many = len(self.book)
        if not is_row(costs, many):
            return False
        # With known costs, their part of each product stands in the limit.
        left = [(row[many:], minus(limit, product(row[:many], costs))) for row, limit in self.lines()]
        return met_lines(left, self.width() - many)[0] == "met"

    def sure(self, weights, least):
        check_row(weights, len(self.book))
        if not is_fraction(least):
            raise InvalidFraction()
        return self.held_at(self.unknowns(), weights, least)

    def book_with(self, costs):
        check_row(costs, len(self.book))
        kinds = [(kind.name, kind.numbers, cost) for kind, cost in zip(self.book.kinds, costs)]
        return wide_book(self.book.wares, kinds)

    def unknowns(self):
        """Unknowns that meet all lines."""
        word, found = met_lines(self.lines(), self.width())
        if word == "broken":
            raise Clash(found)
        return found

    def held_at(self, unknowns, weights, least):
        """What sure says, where some unknowns are known to meet all lines."""
        many = len(self.book)
        goals = (*scaled(weights, (-1, 1)), *zeros(self.width() - many))
        word, found = held_under(self.lines(), unknowns, goals, negative(least))
        return ("sure", found) if word == "held" else ("not", found[:many])

    def lines_under(self, at):
        """For each kind the line that it costs no less than what its numbers are worth at the prices of a look."""
        _, prices = self.looks[at]
        free = [ware for ware, price in enumerate(prices) if price is None]
        places = self.price_places(at)
        known = tuple([ZERO if price is None else price for price in prices])
        found = []
        for k, kind in enumerate(self.book.kinds):
            items = [(-1, 1), *at_places(kind.as_row(), free)]
            row = with_items(zeros(self.width()), [k, *places], items)
            found.append((row, negative(product(known, kind.as_row()))))
        return found

    def price_row(self, at, unknowns):
        """The price row of a look, with what was noted and unknown prices."""
        _, prices = self.looks[at]
        free = [ware for ware, price in enumerate(prices) if price is None]
        return with_items(prices, free, at_places(unknowns, self.price_places(at)))

    def price_places(self, at):
        """The indexes of the unknown prices of a look among all unknowns."""
        return list(range(self.first_place(at), self.first_place(at + 1)))

    def first_place(self, at):
        """How many unknowns stand ahead of those of a look."""
        return len(self.book) + sum([prices.count(None) for _, prices in self.looks[:at]])

    def width(self):
        return self.first_place(len(self.looks))

    def __len__(self):
        return len([*self.looks, *self.sayings])

    def __bool__(self):
        return True

    def __repr__(self):
        return f"Looks({len(self.looks)} looks, {len(self.sayings)} sayings)"


def unchecked_looks(book, looks, sayings):
    """Looks without the limits that the constructor looks at."""
    found = Looks(book)
    found.looks = tuple(looks)
    found.sayings = tuple(sayings)
    return found


def check_looks(book, value):
    at = first_wrong(value, lambda look: is_look(book, look))
    if at is not None:
        raise InvalidLook(at)
    if len(value) > MOST_LOOKS:
        raise TooMany(MOST_LOOKS)


def check_sayings(book, value):
    at = first_wrong(value, lambda saying: is_saying(book, saying))
    if at is not None:
        raise InvalidSaying(at)
    if len(value) > MOST_SAYINGS:
        raise TooMany(MOST_SAYINGS)


def is_look(book, value):
    if not isinstance(value, tuple) or len(value) != 2:
        return False
    lot, prices = value
    if not isinstance(lot, tuple) or not all([is_listed(name, book.names) for name in lot]):
        return False
    if first_double(lot) is not None or not isinstance(prices, tuple) or len(prices) != len(book.wares):
        return False
    return all([is_bound(price) for price in prices])


def is_saying(book, value):
    if not isinstance(value, tuple) or len(value) != 3:
        return False
    weights, low, high = value
    return is_row(weights, len(book)) and is_bound(low) and is_bound(high)


def is_bound(value):
    return value is None or is_fraction(value)
