import random
import unittest
from fractions import Fraction

from shutopen.polygons import cut, doubled_area, has_point
from tests.helpers import frac, pair, row

SQUARE = (row(0, 0), row(4, 0), row(4, 4), row(0, 4))
TRIANGLE = (row(-1, "1/2"), row(3, -2), row(2, "7/3"))


def turned(one, other, point):
    (a, b), (c, d), (e, f) = [(frac(x), frac(y)) for x, y in (one, other, point)]
    return (c - a) * (f - b) - (d - b) * (e - a)


def hull(points):
    """The corners of the convex hull of points, as the document tells them; () without an inside."""
    points = sorted(set(points), key=lambda point: (frac(point[0]), frac(point[1])))
    half = []
    for way in (points, points[::-1]):
        side = []
        for point in way:
            while len(side) > 1 and turned(side[-2], side[-1], point) <= 0:
                side.pop()
            side.append(point)
        half += side[:-1]
    return tuple(half) if len(half) > 2 else ()


def height(point, a, b, limit):
    return frac(a) * frac(point[0]) + frac(b) * frac(point[1]) - frac(limit)


def cut_by_hull(corners, a, b, limit):
    """The part of a convex polygon, as the hull of the corners that stay and the points where sides are crossed."""
    points = [corner for corner in corners if height(corner, a, b, limit) <= 0]
    for one, other in zip(corners, corners[1:] + corners[:1]):
        up, down = height(one, a, b, limit), height(other, a, b, limit)
        if up * down < 0:
            share = up / (up - down)
            points.append(tuple([pair(frac(x) + share * (frac(y) - frac(x))) for x, y in zip(one, other)]))
    return hull(points)


def random_polygons(rnd, many):
    while many:
        corners = hull([row(Fraction(rnd.randint(-6, 6), rnd.randint(1, 2)), rnd.randint(-6, 6)) for _ in range(rnd.randint(3, 8))])
        if corners:
            many -= 1
            yield corners


class TestCut(unittest.TestCase):
    def test_beside_the_polygon(self):
        self.assertEqual(cut(SQUARE, (1, 1), (0, 1), (5, 1)), SQUARE)
        self.assertEqual(cut(SQUARE, (1, 1), (0, 1), (-1, 1)), ())
        self.assertEqual(cut(SQUARE, (1, 1), (1, 1), (9, 1)), SQUARE)
        self.assertEqual(cut(SQUARE, (-1, 1), (-1, 1), (-9, 1)), ())

    def test_along_sides(self):
        self.assertEqual(cut(SQUARE, (1, 1), (0, 1), (4, 1)), SQUARE)
        self.assertEqual(cut(SQUARE, (1, 1), (0, 1), (0, 1)), ())
        self.assertEqual(cut(SQUARE, (0, 1), (-1, 1), (0, 1)), SQUARE)
        self.assertEqual(cut(SQUARE, (0, 1), (-1, 1), (-4, 1)), ())

    def test_through_corners(self):
        self.assertEqual(cut(SQUARE, (1, 1), (-1, 1), (0, 1)), (row(0, 0), row(4, 4), row(0, 4)))
        self.assertEqual(cut(SQUARE, (-1, 1), (1, 1), (0, 1)), (row(0, 0), row(4, 0), row(4, 4)))
        self.assertEqual(cut(SQUARE, (1, 1), (1, 1), (0, 1)), ())
        self.assertEqual(cut(SQUARE, (-1, 1), (-1, 1), (0, 1)), SQUARE)
        self.assertEqual(cut(SQUARE, (2, 1), (1, 1), (8, 1)), (row(0, 0), row(4, 0), row(2, 4), row(0, 4)))

    def test_through_sides(self):
        self.assertEqual(cut(SQUARE, (1, 1), (0, 1), (1, 2)), (row(0, 0), row("1/2", 0), row("1/2", 4), row(0, 4)))
        self.assertEqual(cut(SQUARE, (-1, 1), (0, 1), (-3, 1)), (row(3, 0), row(4, 0), row(4, 4), row(3, 4)))
        self.assertEqual(cut(SQUARE, (1, 1), (1, 1), (1, 1)), (row(0, 0), row(1, 0), row(0, 1)))
        self.assertEqual(cut(SQUARE, (-1, 1), (-1, 1), (-7, 1)), (row(3, 4), row(4, 3), row(4, 4)))
        self.assertEqual(cut(SQUARE, (1, 1), (1, 1), (7, 1)), (row(0, 0), row(4, 0), row(4, 3), row(3, 4), row(0, 4)))

    def test_the_least_corner_stands_first(self):
        self.assertEqual(cut(SQUARE, (-1, 1), (1, 1), (2, 1)), (row(0, 0), row(4, 0), row(4, 4), row(2, 4), row(0, 2)))
        self.assertEqual(cut(SQUARE, (-1, 1), (-1, 1), (-2, 1)), (row(0, 2), row(2, 0), row(4, 0), row(4, 4), row(0, 4)))
        self.assertEqual(cut(SQUARE, (0, 1), (-1, 1), (-1, 3)), (row(0, "1/3"), row(4, "1/3"), row(4, 4), row(0, 4)))

    def test_a_and_b_both_zero(self):
        for corners in (SQUARE, TRIANGLE):
            self.assertEqual(cut(corners, (0, 1), (0, 1), (0, 1)), corners)
            self.assertEqual(cut(corners, (0, 1), (0, 1), (1, 9)), corners)
            self.assertEqual(cut(corners, (0, 1), (0, 1), (-1, 9)), ())

    def test_names_and_large_fractions(self):
        great = pair(Fraction(10 ** 40, 3))
        self.assertEqual(cut(corners=SQUARE, a=great, b=(0, 1), limit=great), (row(0, 0), row(1, 0), row(1, 4), row(0, 4)))
        self.assertEqual(cut(limit=(1, 10 ** 40), b=(1, 1), a=(1, 1), corners=SQUARE)[1], ((1, 10 ** 40), (0, 1)))

    def test_random_cuts(self):
        rnd = random.Random(21)
        for corners in random_polygons(rnd, 150):
            self.assertEqual(hull(corners), corners)
            for _ in range(6):
                a, b = row(rnd.randint(-2, 2), Fraction(rnd.randint(-3, 3), 2))
                one, other = rnd.choice(corners), rnd.choice(corners)
                limit = rnd.choice([pair(height(one, a, b, (0, 1))), pair(rnd.randint(-6, 6)),
                                    pair((height(one, a, b, (0, 1)) + height(other, a, b, (0, 1))) / 2)])
                part = cut(corners, a, b, limit)
                self.assertEqual(part, cut_by_hull(corners, a, b, limit))
                other_part = cut(corners, (-a[0], a[1]), (-b[0], b[1]), (-limit[0], limit[1]))
                if (a, b) != row(0, 0):
                    self.assertEqual(frac(doubled_area(part)) + frac(doubled_area(other_part)), frac(doubled_area(corners)))

    def test_a_polygon_that_is_not_convex(self):
        arrow = (row(0, 0), row(4, -2), row(2, 0), row(4, 2))
        self.assertEqual(cut(arrow, (0, 1), (1, 1), (0, 1)), (row(0, 0), row(4, -2), row(2, 0)))
        self.assertEqual(cut(arrow, (1, 1), (0, 1), (2, 1)), (row(0, 0), row(2, -1), row(2, 1)))
        self.assertEqual(cut(arrow, (1, 1), (0, 1), (4, 1)), arrow)


class TestPoints(unittest.TestCase):
    def test_inside_on_a_side_and_outside(self):
        for point in [row(2, 2), row("1/9", "1/9"), row("35/9", 1)]:
            self.assertIs(has_point(SQUARE, point), True)
        for point in [*SQUARE, row(0, 1), row(4, "7/2"), row(3, 0), row("1/3", 4)]:
            self.assertIs(has_point(SQUARE, point), True)
        for point in [row(-1, 2), row(5, 2), row(2, -1), row(2, 5), row(5, 4), row(-1, 4), row(5, 0), row(-1, 0), row(4, 5),
                      row(4, -1), row(0, 5), row(0, "-1/9"), row("37/9", 2), row(5, 5), row(-1, -1)]:
            self.assertIs(has_point(SQUARE, point), False)

    def test_points_of_a_triangle(self):
        for point in [*TRIANGLE, row(1, 0), row(1, "-3/4"), row("5/2", "1/6")]:
            self.assertIs(has_point(TRIANGLE, point), True, point)
        for point in [row(1, -1), row(3, 0), row(-1, 0), row(0, 2), row(-2, "1/2"), row(3, "1/2"), row(4, -2), row(2, -2)]:
            self.assertIs(has_point(TRIANGLE, point), False, point)

    def test_random_points(self):
        rnd = random.Random(22)
        for corners in random_polygons(rnd, 60):
            sides = list(zip(corners, corners[1:] + corners[:1]))
            for _ in range(60):
                point = row(Fraction(rnd.randint(-13, 13), 2), rnd.randint(-6, 6))
                expected = all(turned(one, other, point) >= 0 for one, other in sides)
                self.assertIs(has_point(corners, point), expected)
            for one, other in sides:
                middle = tuple([pair((frac(x) + frac(y)) / 2) for x, y in zip(one, other)])
                self.assertIs(has_point(corners=corners, point=middle), True)

    def test_points_of_a_polygon_that_is_not_convex(self):
        arrow = (row(0, 0), row(4, -2), row(2, 0), row(4, 2))
        for point in [row(1, 0), row(2, 0), row(3, 1), row(3, "5/4"), row(3, "-5/4"), row(4, 2)]:
            self.assertIs(has_point(arrow, point), True, point)
        for point in [row(3, 0), row("5/2", 0), row(4, 0), row(3, 2), row(-1, 0), row(4, 1)]:
            self.assertIs(has_point(arrow, point), False, point)


class TestArea(unittest.TestCase):
    def test_areas(self):
        self.assertEqual(doubled_area(SQUARE), (32, 1))
        self.assertEqual(doubled_area((row(0, 0), row(1, 0), row(0, 1))), (1, 1))
        self.assertEqual(doubled_area((row(0, 0), row("1/2", 0), row(0, "1/3"))), (1, 6))
        self.assertEqual(doubled_area(corners=(row(-3, -3), row(-2, -3), row(-3, -2))), (1, 1))
        self.assertEqual(frac(doubled_area(TRIANGLE)), turned(*TRIANGLE))

    def test_areas_of_fans(self):
        rnd = random.Random(23)
        for corners in random_polygons(rnd, 100):
            fan = sum(turned(corners[0], one, other) for one, other in zip(corners[1:], corners[2:]))
            self.assertEqual(frac(doubled_area(corners)), fan)
            self.assertGreater(fan, 0)
