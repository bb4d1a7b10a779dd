"""Bases of a vessel, and for which prices of two open wares no kind lacks less than nothing beside a base."""

from shutopen.checks import check_lot
from shutopen.errors import NotBase
from shutopen.exact import ONE, plus, product, scaled, zeros
from shutopen.fields import window_corners
from shutopen.polygons import cut
from shutopen.shutrows import at_places, shut_columns, with_items
from shutopen.sums import contents_by
from shutopen.sure import columns_in
from shutopen.tables import rank, solution
from shutopen.windows import at_prices, check_two, places_of_wares
from shutopen.words import is_listed


def is_base(vessel, value):
    if not isinstance(value, (list, tuple)) or not all([is_listed(name, vessel.book.names) for name in value]):
        return False
    own = rank(columns_in(vessel, value))
    return own == len(value) and own == rank(shut_columns(vessel))


def base_field(vessel, base, *, ware, other, window):
    check_lot(base, vessel.book.names)
    if not is_base(vessel, base):
        raise NotBase()
    check_two(vessel, ware, other, window)
    corners = window_corners(window)
    for (right, upward), limit in lack_bounds(vessel, base, (ware, other)):
        corners = cut(corners, right, upward, limit)
    return corners


def lack_bounds(vessel, base, wares):
    """Pairs of a row and a limit, one for each kind: it lacks nothing below 0 at the prices of some open wares just if
    the product of the row and the prices is at most the limit.
    """
    free = at_prices(vessel, wares, zeros(len(wares)))
    costs = free.net_costs()
    places = places_of_wares(vessel, wares)
    bounds = []
    for change in base_changes(vessel, base):
        bounds.append((at_places(contents_by(vessel.book, change), places), product(change, costs)))
    return bounds


def base_changes(vessel, base):
    """For each kind the change that makes one of it and uses up, or makes, kinds of the base. A price row that touches
    the base gives the kind a lack of just what the change costs.
    """
    columns = shut_columns(vessel)
    inside = [at for at, name in enumerate(vessel.book.names) if name in base]
    rows = [tuple([columns[k][ware] for k in inside]) for ware in range(len(columns[0]))]
    found = []
    for at, column in enumerate(columns):
        weights = solution(rows, column, len(inside))
        change = with_items(zeros(len(columns)), inside, scaled(weights, (-1, 1)))
        found.append(with_items(change, [at], [plus(change[at], ONE)]))
    return found
