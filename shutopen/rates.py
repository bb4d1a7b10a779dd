"""First costs and gains: how the least burden begins to change while the shut amounts go in a direction."""

from shutopen.errors import InvalidRow
from shutopen.exact import ONE, ZERO, least_of, minus, negative, over, product, scaled, sign
from shutopen.pivots import solve
from shutopen.rests import rest_of
from shutopen.shutrows import at_places, price_row, shut_columns, shut_row
from shutopen.words import is_fraction


def first_cost(vessel, direction):
    rest = rest_of(vessel)
    check_direction(vessel, direction)
    return dearest(rest, direction)


def first_gain(vessel, direction):
    rest = rest_of(vessel)
    check_direction(vessel, direction)
    found = dearest(rest, scaled(direction, (-1, 1)))
    if found[0] == "none":
        return found
    return ("rate", negative(found[1]), found[2])


def small_step(vessel, direction):
    rest = rest_of(vessel)
    check_direction(vessel, direction)
    found = cheapest(rest, direction)
    if found[0] == "none":
        return None
    # As long as no amount of the told rest comes below 0, the cheapest change has the least burden.
    change = list(found[1][:len(rest.fill.parts)])
    for at, back in zip(places_inside(rest), found[1][len(change):]):
        change[at] = minus(change[at], back)
    shares = [over(part, negative(item)) for part, item in zip(rest.fill.parts, change) if sign(item) < 0]
    return least_of([ONE, *shares])


def dearest(rest, direction):
    """The greatest product of a direction and a best row, as first_cost tells it."""
    vessel = rest.vessel
    found = cheapest(rest, direction)
    if found[0] == "none":
        return ("none", shut_row(vessel, found[1]))
    row = price_row(vessel, found[2])
    return ("rate", product(direction, row), row)


def cheapest(rest, direction):
    """The task of the cheapest change with contents of a direction at the shut wares: behind the kinds stand once more
    those of the told rest, turned about, as they can be used up, too. So its prices are best rows.
    """
    vessel = rest.vessel
    columns = shut_columns(vessel)
    costs = vessel.net_costs()
    inside = places_inside(rest)
    turned = [scaled(columns[at], (-1, 1)) for at in inside]
    all_costs = (*costs, *[negative(costs[at]) for at in inside])
    return solve([*columns, *turned], at_places(direction, vessel.shut_places()), all_costs)


def places_inside(rest):
    return [at for at, part in enumerate(rest.fill.parts) if part != ZERO]


def check_direction(vessel, value):
    if not isinstance(value, tuple) or len(value) != len(vessel.states):
        raise InvalidRow(-1)
    for at, item in enumerate(value):
        if not is_fraction(item) or (vessel.states[at][0] == "open" and item != ZERO):
            raise InvalidRow(at)
