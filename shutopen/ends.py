"""Whether papers show the end of a vessel: that it rests, cannot be filled or runs away."""

from shutopen.exact import ZERO, product, sign
from shutopen.lacks import is_borne, suits, touches
from shutopen.sums import contents_by, cost_by
from shutopen.words import is_mixture, is_row


def is_rest(vessel, fill, row):
    if not vessel.fits(fill) or not is_borne(vessel.book, row) or not suits(vessel, row):
        return False
    return touches(vessel.book, row, fill)


def is_unfillable(vessel, row):
    if not is_row(row, len(vessel.states)):
        return False
    if not all([word == "shut" or item == ZERO for (word, _), item in zip(vessel.states, row)]):
        return False
    if not all([sign(product(row, kind.as_row())) <= 0 for kind in vessel.book.kinds]):
        return False
    return sign(product(row, vessel.amounts)) > 0


def is_runaway(vessel, fill, mixture):
    if not vessel.fits(fill) or not is_mixture(mixture, len(vessel.book.kinds)):
        return False
    contents = contents_by(vessel.book, mixture)
    if not all([contents[at] == ZERO for at in vessel.shut_places()]):
        return False
    return sign(product(mixture, vessel.net_costs())) < 0


def is_hollow_by(book, mixture):
    if not is_mixture(mixture, len(book.kinds)) or sign(cost_by(book, mixture)) >= 0:
        return False
    return all([item == ZERO for item in contents_by(book, mixture)])
