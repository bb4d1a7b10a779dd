"""Fields: for which prices of two open wares one and the same fill is a rest."""

from shutopen.checks import check_searched
from shutopen.errors import OutsideWindow
from shutopen.exact import compared, minus, places_in_order
from shutopen.polygons import cut, has_point, is_less
from shutopen.windows import Piece, check_fillable, check_two, price_bounds
from shutopen.words import is_row


class Field:
    """A polygon of prices, the contents of both wares, and a fill that is a rest at all points of the polygon."""

    def __init__(self, held, fill, corners):
        self.held = held
        self.fill = fill
        self.corners = corners

    def __contains__(self, x):
        return is_row(x, 2) and has_point(self.corners, x)

    def __repr__(self):
        return f"Field({len(self.corners)} corners)"


class Fields:
    """All fields of a window for the prices of two open wares; their own prices mean nothing."""

    def __init__(self, vessel, *, ware, other, window):
        check_searched(vessel.book)
        check_two(vessel, ware, other, window)
        check_fillable(vessel)
        self.window = window
        self.listed = tuple(fields_in(vessel, (ware, other), window))

    def fields(self):
        return list(self.listed)

    def field_at(self, point):
        if not is_row(point, 2) or not has_point(window_corners(self.window), point):
            raise OutsideWindow(point)
        for field in self.listed:
            if point in field:
                return field
        return None

    def borders(self):
        found = []
        for i, one in enumerate(self.listed):
            for j in range(i + 1, len(self.listed)):
                ends = [corner for corner in one.corners if corner in self.listed[j].corners]
                # Fields meet in a whole side of both, in a corner of both, or not at all.
                if len(ends) == 2:
                    first, last = ends if is_less(ends[0], ends[1]) else ends[::-1]
                    found.append((i, j, first, last))
        return found

    def __len__(self):
        return len(self.listed)

    def __repr__(self):
        return f"Fields({len(self.listed)} fields)"


def fields_in(vessel, wares, window):
    corners = window_corners(window)
    for (right, upward), limit in price_bounds(vessel, wares):
        corners = cut(corners, right, upward, limit)
    found = [Field(piece.held, piece.fill, cell) for piece, cell in cells_in(vessel, wares, corners)]
    order = places_in_order([(*field.corners[0], *field.held) for field in found])
    return [found[at] for at in order]


def cells_in(vessel, wares, corners):
    """The pairs of a piece and the polygon in which its fill is a rest, that cover a polygon."""
    pairs = []
    seen = {}
    left = list(corners)
    while left:
        point = left.pop()
        if point not in seen:
            seen[point] = True
            piece = Piece(vessel, wares, point)
            # Where the known pieces have the least burden at all corners of their polygons, they have it everywhere,
            # as the least burden is nowhere below what lies straight between.
            if is_below(piece, [other for other, _ in pairs], point):
                pairs = with_piece(pairs, piece, corners)
                left = [corner for _, cell in pairs for corner in cell]
    return pairs


def is_below(piece, others, point):
    burden = piece.burden_at(point)
    return all([compared(burden, other.burden_at(point)) < 0 for other in others])


def with_piece(pairs, piece, corners):
    """The pairs with one more piece in the polygon with some corners; the polygons of others get smaller by it."""
    own = corners
    found = []
    for other, cell in pairs:
        own = where_below(own, piece, other)
        smaller = where_below(cell, other, piece)
        if smaller:
            found.append((other, smaller))
    return [*found, (piece, own)]


def where_below(corners, piece, other):
    """The part of a polygon where the burden of a piece is not above that of another one."""
    right, upward = [minus(more, own) for own, more in zip(piece.held, other.held)]
    return cut(corners, right, upward, minus(other.free_burden, piece.free_burden))


def window_corners(window):
    low, high, bottom, top = window
    return ((low, bottom), (high, bottom), (high, top), (low, top))
