"""Price stretches: for which prices of an open ware one and the same fill is a rest."""

from shutopen.checks import check_searched
from shutopen.exact import added, compared, fraction_text, minus, over, scaled, sign, times
from shutopen.windows import Piece, check_fillable, check_one, price_bounds


class PriceStretch:
    """The prices from low to high, the contents of the ware, and a fill that is a rest at all of these prices."""

    def __init__(self, low, high, amount, fill):
        self.low = low
        self.high = high
        self.amount = amount
        self.fill = fill

    def __repr__(self):
        return f"PriceStretch({fraction_text(self.low)} to {fraction_text(self.high)})"


def stretches(vessel, *, ware, window):
    check_searched(vessel.book)
    check_one(vessel, ware, window)
    check_fillable(vessel)
    low, high = resting_ends(price_bounds(vessel, (ware,)), window)
    if compared(low, high) >= 0:
        return []
    pieces = pieces_from(vessel, ware, low, high)
    bends = [crossing(one, other) for one, other in zip(pieces, pieces[1:])]
    found = []
    for piece, start, end in zip(pieces, [low, *bends], [*bends, high]):
        # The fill that was found at a price may be a rest at this one price alone.
        if start != end:
            found.append(PriceStretch(start, end, piece.held[0], piece.fill))
    return found


def cooled(vessel, *, ware, window):
    parts = stretches(vessel, ware=ware, window=window)
    found = []
    for lower, upper in zip(parts, parts[1:]):
        change = added(lower.fill.parts, scaled(upper.fill.parts, (-1, 1)))
        found.append((upper.low, change))
    return found[::-1]


def resting_ends(bounds, window):
    """The least and the greatest price of a window at which all bounds are kept; if there is none, the first one
    is not below the second one.
    """
    low, high = window
    for row, limit in bounds:
        item = row[0]
        if sign(item) == 0 and sign(limit) < 0:
            return (high, high)
        if sign(item) > 0 and compared(limit, times(high, item)) < 0:
            high = over(limit, item)
        if sign(item) < 0 and compared(limit, times(low, item)) < 0:
            low = over(limit, item)
    return (low, high)


def pieces_from(vessel, ware, low, high):
    """Pieces with rising contents of a ware such that at each price from low to high the fill of one is a rest."""
    one = Piece(vessel, (ware,), (low,))
    other = Piece(vessel, (ware,), (high,))
    if one.held == other.held:
        return [one]
    return [one, *pieces_between(vessel, ware, one, other), other]


def pieces_between(vessel, ware, one, other):
    """What stands between two pieces: nothing if both rest at the price at which they have the same burden."""
    price = crossing(one, other)
    piece = Piece(vessel, (ware,), (price,))
    if piece.burden_at((price,)) == one.burden_at((price,)):
        return []
    before = pieces_between(vessel, ware, one, piece)
    return [*before, piece, *pieces_between(vessel, ware, piece, other)]


def crossing(one, other):
    """The price at which two pieces have the same burden."""
    return over(minus(other.free_burden, one.free_burden), minus(other.held[0], one.held[0]))
