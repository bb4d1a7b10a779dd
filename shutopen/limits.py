"""Lines, pairs of a row and a limit: the product of the row with some prices is at most the limit."""

from shutopen.exact import ONE, added, compared, minus, negative, over, plus, product, scaled, sign
from shutopen.pivots import met, solve


def turned(line):
    """The line that says of a product that it is at least the limit."""
    row, limit = line
    return (scaled(row, (-1, 1)), negative(limit))


def rows_of(lines):
    return [row for row, _ in lines]


def limits_of(lines):
    return tuple([limit for _, limit in lines])


def met_lines(lines, width):
    """Prices that meet all lines, or weights that break them, as met tells them."""
    return met(rows_of(lines), limits_of(lines), width)


def held_under(lines, prices, goals, limit):
    """Looks whether all prices that meet some lines have with goals a product of at most a limit; some such prices are
    given. Returns the pair of the word held and weights of lines, with which the sum of the rows is goals and that of
    the limits is at most the limit; or of the word above and prices that meet the lines and have a greater product.
    """
    limits = limits_of(lines)
    found = solve(rows_of(lines), goals, limits)
    if found[0] == "none":
        return ("above", moved_above(prices, found[1], goals, limit))
    if compared(product(found[1], limits), limit) <= 0:
        return ("held", found[1])
    return ("above", found[2])


def moved_above(row, direction, goals, limit):
    """A row, moved in a direction in which its product with goals grows until this is above a limit."""
    left = minus(limit, product(row, goals))
    share = ONE if sign(left) < 0 else plus(over(left, product(direction, goals)), ONE)
    return added(row, scaled(direction, share))
