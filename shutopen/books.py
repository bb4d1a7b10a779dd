"""Books: some wares, and the kinds of stuff that hold them."""

from shutopen.booktexts import MOST_KINDS, read_parts
from shutopen.checks import check_lot, check_row, first_double
from shutopen.errors import DuplicateName, InvalidKind, InvalidWares, TooMany, UnknownKind, UnknownWare
from shutopen.exact import plus, product
from shutopen.kinds import MOST_NUMBERS, Kind, wide_kind
from shutopen.words import is_listed, is_name


class Book:
    """Different wares and different names of kinds, each kind with one number for each ware."""

    def __init__(self, wares, *kinds):
        check_wares(wares)
        check_kinds(kinds, len(wares))
        self.wares = tuple(wares)
        self.kinds = kinds
        self.names = names_of(kinds)

    def kind(self, name):
        return self.kinds[self.place(name)]

    def place(self, name):
        if not is_listed(name, self.names):
            raise UnknownKind(name)
        return self.names.index(name)

    def ware_index(self, ware):
        if not is_listed(ware, self.wares):
            raise UnknownWare(ware)
        return self.wares.index(ware)

    def with_kind(self, kind):
        check_kind(kind, len(self.kinds), len(self.wares))
        if kind.name in self.names:
            raise DuplicateName(kind.name)
        if len(self.kinds) >= MOST_KINDS:
            raise TooMany(MOST_KINDS)
        return unchecked_book(self.wares, [*self.kinds, kind])

    def without(self, name):
        at = self.place(name)
        if len(self.kinds) == 1:
            raise InvalidKind(0)
        return unchecked_book(self.wares, self.kinds[:at] + self.kinds[at + 1:])

    def part(self, lot):
        names = self.ordered(lot)
        if not names:
            raise InvalidKind(0)
        return unchecked_book(self.wares, [self.kind(name) for name in names])

    def moved(self, row):
        check_row(row, len(self.wares))
        kinds = []
        for kind in self.kinds:
            cost = plus(kind.cost, product(row, kind.as_row()))
            kinds.append(wide_kind(kind.name, kind.numbers, cost))
        return unchecked_book(self.wares, kinds)

    def ordered(self, lot):
        check_lot(lot, self.names)
        return tuple([name for name in self.names if name in lot])

    def text(self):
        wares = " ".join(self.wares)
        lines = [f"wares {wares}", *[kind.text() for kind in self.kinds], ""]
        return "\n".join(lines)

    @staticmethod
    def read(text):
        wares, kinds = read_parts(text)
        return Book(wares, *kinds)

    def __contains__(self, x):
        return is_listed(x, self.names)

    def __eq__(self, other):
        return isinstance(other, Book) and self.wares == other.wares and self.kinds == other.kinds

    def __len__(self):
        return len(self.kinds)

    def __str__(self):
        return str(self.text())

    def __repr__(self):
        return f"Book({len(self.kinds)} kinds)"


def wide_book(wares, kinds):
    return unchecked_book(wares, [wide_kind(name, numbers, cost) for name, numbers, cost in kinds])


def unchecked_book(wares, kinds):
    """A book without the limits that Book looks at."""
    # The constructor would look at them, so the parts are put into a book that it takes.
    book = Book(("a",), Kind("a", (0,)))
    book.wares = tuple(wares)
    book.kinds = tuple(kinds)
    book.names = names_of(kinds)
    return book


def names_of(kinds):
    return tuple([kind.name for kind in kinds])


def check_wares(value):
    if not isinstance(value, (list, tuple)) or not value:
        raise InvalidWares(-1)
    for at, item in enumerate(value):
        if not is_name(item) or item in value[:at]:
            raise InvalidWares(at)
    if len(value) > MOST_NUMBERS:
        raise TooMany(MOST_NUMBERS)


def check_kinds(kinds, many):
    if not kinds:
        raise InvalidKind(0)
    for at, kind in enumerate(kinds):
        check_kind(kind, at, many)
    double = first_double(names_of(kinds))
    if double is not None:
        raise DuplicateName(kinds[double].name)
    if len(kinds) > MOST_KINDS:
        raise TooMany(MOST_KINDS)


def check_kind(value, at, many):
    if not isinstance(value, Kind) or len(value.numbers) != many:
        raise InvalidKind(at)
