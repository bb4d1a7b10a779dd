"""Polygons with exact corners: points (right, upward), told from the least one on, against the clock."""

from shutopen.exact import ONE, ZERO, compared, minus, over, plus, product, sign, times


def cut(corners, a, b, limit):
    heights = [minus(product((a, b), corner), limit) for corner in corners]
    points = []
    for at, corner in enumerate(corners):
        if sign(heights[at - 1]) * sign(heights[at]) < 0:
            points.append(crossing(corners[at - 1], corner, heights[at - 1], heights[at]))
        if sign(heights[at]) <= 0:
            points.append(corner)
    return told(points)


def has_point(corners, point):
    inside = False
    for at, corner in enumerate(corners):
        ahead = corners[at - 1]
        side = turn(ahead, corner, point)
        if side == 0 and is_between(ahead, corner, point):
            return True
        upward = compared(ahead[1], point[1]) <= 0
        # A side that passes the point on its right changes whether the point is inside.
        if upward != (compared(corner[1], point[1]) <= 0) and upward == (side > 0):
            inside = not inside
    return inside


def doubled_area(corners):
    area = ZERO
    for at, corner in enumerate(corners):
        ahead = corners[at - 1]
        area = plus(area, minus(times(ahead[0], corner[1]), times(corner[0], ahead[1])))
    return area


def turn(one, other, point):
    """1 if the way from one by the other to the point turns against the clock, -1 with it, 0 if it is straight."""
    right = times(minus(other[0], one[0]), minus(point[1], one[1]))
    left = times(minus(other[1], one[1]), minus(point[0], one[0]))
    return compared(right, left)


def is_between(one, other, point):
    """Whether a point on the line through two others is not outside of them."""
    across = sign(minus(one[0], point[0])) * sign(minus(other[0], point[0]))
    along = sign(minus(one[1], point[1])) * sign(minus(other[1], point[1]))
    return across <= 0 and along <= 0


def crossing(one, other, height, depth):
    """The point between two others where the height is 0, with their heights."""
    share = over(height, minus(height, depth))
    rest = minus(ONE, share)
    return (product((one[0], other[0]), (rest, share)), product((one[1], other[1]), (rest, share)))


def told(points):
    """The points of a way around a polygon as its corners, () if it has no inside."""
    corners = list(points)
    at = straight_point(corners)
    while at is not None:
        del corners[at]
        at = straight_point(corners)
    first = least_point(corners)
    return tuple(corners[first:] + corners[:first])


def straight_point(points):
    for at, point in enumerate(points):
        if turn(points[at - 1], point, points[at + 1 - len(points)]) == 0:
            return at
    return None


def least_point(points):
    first = 0
    for at, point in enumerate(points):
        if is_less(point, points[first]):
            first = at
    return first


def is_less(one, other):
    across = compared(one[0], other[0])
    return across < 0 or (across == 0 and compared(one[1], other[1]) < 0)
