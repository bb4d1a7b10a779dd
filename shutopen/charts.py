"""Charts: the cones of all shut amounts with which the same kinds can rest."""

from shutopen.checks import check_row, check_searched
from shutopen.errors import Hollow, TooMany
from shutopen.exact import added, scaled, zeros
from shutopen.faces import touched_places
from shutopen.pivots import solve
from shutopen.shutrows import shut_columns, shut_numbers, shut_row, with_items
from shutopen.sure import columns_in, maybe
from shutopen.tables import rank
from shutopen.words import is_row

MOST_SHUT = 3


class Cone:
    """All sums of the numbers of the kinds of a lot at the shut wares of a vessel, with weights of 0 and more."""

    def __init__(self, vessel, lot):
        self.vessel = vessel
        self.lot = lot
        self.rays = tuple(columns_in(vessel, lot))
        self.rank = rank(self.rays)

    def holds(self, point):
        return self.weights_of(point) is not None

    def inside(self, point):
        if not self.holds(point):
            return False
        # All weights of the point can be positive just if some multiple of it, also 0 times, is a sum with all weights
        # 1 or more; less the sum of all rays once this is a sum with weights of 0 or more.
        once = zeros(len(point))
        for ray in self.rays:
            once = added(once, ray)
        columns = [*self.rays, scaled(point, (-1, 1))]
        return solve(columns, scaled(once, (-1, 1)), zeros(len(columns)))[0] == "least"

    def mixed(self, point):
        weights = self.weights_of(point)
        if weights is None:
            return None
        book = self.vessel.book
        return with_items(zeros(len(book)), [book.place(name) for name in self.lot], weights)

    def weights_of(self, point):
        """Weights of the rays with which their sum is a point, None if there are none or the value is no point."""
        if not is_row(point, len(self.vessel.shut_places())):
            return None
        found = solve(self.rays, point, zeros(len(self.rays)))
        return found[1] if found[0] == "least" else None

    def __and__(self, other):
        return Cone(self.vessel, tuple([name for name in self.lot if name in other.lot]))

    def __eq__(self, other):
        return isinstance(other, Cone) and self.lot == other.lot and is_alike(self.vessel, other.vessel)

    def __repr__(self):
        return f"Cone({len(self.lot)} kinds)"


class Chart:
    """The cones of all amounts of the shut wares of a vessel; its own amounts mean nothing."""

    def __init__(self, vessel):
        if len(vessel.shut_places()) > MOST_SHUT:
            raise TooMany(MOST_SHUT)
        check_searched(vessel.book)
        check_suited(vessel)
        self.vessel = vessel
        self.listed = tuple([Cone(vessel, lot) for lot in chart_lots(vessel)])

    def cones(self):
        return list(self.listed)

    def great(self):
        lots_here = [cone.lot for cone in self.listed]
        return [cone for cone in self.listed if not is_covered(cone.lot, lots_here)]

    def cone_of(self, point):
        check_row(point, len(self.vessel.shut_places()))
        lot, _, _ = maybe(self.vessel.with_amounts(shut_row(self.vessel, point)))
        return Cone(self.vessel, lot)

    def neighbours(self, cone):
        others = [other for other in self.great() if other.lot != cone.lot]
        return [other for other in others if (cone & other).rank == cone.rank - 1]

    def __len__(self):
        return len(self.listed)

    def __repr__(self):
        return f"Chart({len(self.listed)} cones)"


def check_suited(vessel):
    found = solve(shut_columns(vessel), zeros(len(vessel.shut_places())), vessel.net_costs())
    if found[0] == "down":
        raise Hollow(found[2])


def chart_lots(vessel):
    """The lots that the borne price rows that suit a vessel touch, in order."""
    names = vessel.book.names
    found = touched_places(shut_numbers(vessel), vessel.net_costs())
    return [tuple([names[at] for at in places]) for places in found]


def is_covered(lot, others):
    """Whether a lot is in one of others that is not the same."""
    return any([len(other) > len(lot) and all([name in other for name in lot]) for other in others])


def is_alike(one, other):
    """Whether two vessels have the same chart."""
    if one.book != other.book or one.shut_wares() != other.shut_wares():
        return False
    return one.open_prices() == other.open_prices()
