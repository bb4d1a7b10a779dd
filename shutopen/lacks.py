"""Price rows of a book, and what the kinds lack under them."""

from shutopen.checks import check_row
from shutopen.exact import ZERO, minus, product, sign
from shutopen.words import is_row


def lacks(book, row):
    check_row(row, len(book.wares))
    return tuple([minus(kind.cost, product(row, kind.as_row())) for kind in book.kinds])


def touched(book, row):
    return tuple([name for name, lack in zip(book.names, lacks(book, row)) if lack == ZERO])


def is_borne(book, value):
    return is_row(value, len(book.wares)) and all([sign(lack) >= 0 for lack in lacks(book, value)])


def suits(vessel, value):
    if not is_row(value, len(vessel.states)):
        return False
    return all([word == "shut" or price == own for (word, own), price in zip(vessel.states, value)])


def touches(book, row, fill):
    names = touched(book, row)
    return all([name in names for name in fill.lot])
