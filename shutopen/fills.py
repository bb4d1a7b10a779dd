"""Fills: an amount of each kind of a book."""

from shutopen.errors import InvalidFill, InvalidFraction, Negative, UnknownKind
from shutopen.exact import ZERO, added, scaled, sign
from shutopen.sums import contents_by, cost_by
from shutopen.words import is_fraction, is_listed


class Fill:
    """Amounts that are not negative, one for each kind of the book."""

    def __init__(self, book, parts):
        check_parts(book, parts)
        self.book = book
        self.parts = tuple(parts)
        self.lot = tuple([name for name, part in zip(book.names, parts) if part != ZERO])
        self.contents = contents_by(book, parts)
        self.cost = cost_by(book, parts)

    @staticmethod
    def of(book, amounts):
        if not isinstance(amounts, dict):
            raise InvalidFill(-1)
        for name in amounts:
            if not is_listed(name, book.names):
                raise UnknownKind(name)
        return Fill(book, [amounts.get(name, ZERO) for name in book.names])

    def __add__(self, other):
        return Fill(self.book, added(self.parts, other.parts))

    def __sub__(self, other):
        parts = added(self.parts, scaled(other.parts, (-1, 1)))
        for name, part in zip(self.book.names, parts):
            if sign(part) < 0:
                raise Negative(name)
        return Fill(self.book, parts)

    def __mul__(self, other):
        if not is_amount(other):
            raise InvalidFraction()
        return Fill(self.book, scaled(self.parts, other))

    def __getitem__(self, at):
        return self.parts[self.book.place(at)]

    def __iter__(self):
        raise TypeError("a fill is not iterated over")

    def __contains__(self, x):
        return is_listed(x, self.lot)

    def __eq__(self, other):
        return isinstance(other, Fill) and self.book == other.book and self.parts == other.parts

    def __len__(self):
        return len(self.lot)

    def __bool__(self):
        return bool(self.lot)

    def __repr__(self):
        return f"Fill({len(self.lot)} kinds)"


def check_parts(book, parts):
    if not isinstance(parts, (list, tuple)) or len(parts) != len(book.kinds):
        raise InvalidFill(-1)
    for at, part in enumerate(parts):
        if not is_amount(part):
            raise InvalidFill(at)


def is_amount(value):
    return is_fraction(value) and value[0] >= 0
