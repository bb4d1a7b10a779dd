"""Checks of arguments that many functions take: rows and lots, with the index of the first wrong item, and sizes."""

from shutopen.errors import InvalidLot, InvalidRow, TooMany
from shutopen.words import is_fraction, is_listed

MOST_SEARCHED = 12


def check_searched(book):
    """All sets of kinds of a book are gone through only if there are not too many."""
    if len(book.kinds) > MOST_SEARCHED:
        raise TooMany(MOST_SEARCHED)


def check_row(value, many):
    if not isinstance(value, tuple) or len(value) != many:
        raise InvalidRow(-1)
    for at, item in enumerate(value):
        if not is_fraction(item):
            raise InvalidRow(at)


def check_lot(value, names):
    if not isinstance(value, (list, tuple)):
        raise InvalidLot(-1)
    for at, item in enumerate(value):
        if not is_listed(item, names) or item in value[:at]:
            raise InvalidLot(at)


def first_double(names):
    """The index of the first name that stands ahead, None if there is none."""
    for at, name in enumerate(names):
        if name in names[:at]:
            return at
    return None


def first_wrong(value, is_right):
    """-1 if a value is no list or tuple, otherwise the index of the first item that is not right, None if there is
    none.
    """
    if not isinstance(value, (list, tuple)):
        return -1
    for at, item in enumerate(value):
        if not is_right(item):
            return at
    return None
