"""Windows of prices for one or two open wares: their forms, where in them a vessel rests, and what rests there."""

from shutopen.errors import InvalidWindow, NotOpen, Unfillable, UnknownWare
from shutopen.exact import compared, minus, plus, product, zeros
from shutopen.reactions import least_reactions, reaction_cost
from shutopen.rests import end_of, rest_of
from shutopen.shutrows import at_places
from shutopen.words import is_listed, is_row


class Piece:
    """A rest at a point of prices of some wares; as a fill that fits it has a burden at each other point, too."""

    def __init__(self, vessel, wares, point):
        rest = rest_of(at_prices(vessel, wares, point))
        self.fill = rest.fill
        self.held = at_places(rest.fill.contents, places_of_wares(vessel, wares))
        self.free_burden = plus(rest.burden, product(self.held, point))

    def burden_at(self, point):
        return minus(self.free_burden, product(self.held, point))


def is_window(value):
    return is_row(value, 2) and compared(value[0], value[1]) < 0


def is_double_window(value):
    return is_row(value, 4) and is_window(value[:2]) and is_window(value[2:])


def check_open(vessel, ware):
    if vessel.state(ware)[0] != "open":
        raise NotOpen(ware)


def check_one(vessel, ware, window):
    """Looks at an open ware of a vessel and a window for it."""
    check_open(vessel, ware)
    if not is_window(window):
        raise InvalidWindow()


def check_two(vessel, ware, other, window):
    """Looks at two different open wares of a vessel and a window for them."""
    vessel.book.ware_index(ware)
    if not is_listed(other, vessel.book.wares) or other == ware:
        raise UnknownWare(other)
    check_open(vessel, ware)
    check_open(vessel, other)
    if not is_double_window(window):
        raise InvalidWindow()


def check_fillable(vessel):
    end = end_of(vessel)
    if end[0] == "unfillable":
        raise Unfillable(end[1])


def at_prices(vessel, wares, prices):
    found = vessel
    for ware, price in zip(wares, prices):
        found = found.with_state(ware, ("open", price))
    return found


def places_of_wares(vessel, wares):
    return [vessel.book.ware_index(ware) for ware in wares]


def price_bounds(vessel, wares):
    """Pairs of a row and a limit: a vessel that can be filled rests at prices of some open wares just if the product of
    each of the rows and the prices is at most the limit.
    """
    free = at_prices(vessel, wares, zeros(len(wares)))
    places = places_of_wares(vessel, wares)
    bounds = []
    for reaction in least_reactions(free):
        # What runs away is a sum of least reactions that use up nothing, and one of them costs less than 0.
        if not reaction.made():
            told = -reaction
            held = [(part, 1) for part in at_places(told.contents_of(), places)]
            bounds.append((tuple(held), reaction_cost(free, told)))
    return bounds
