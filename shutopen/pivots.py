"""Tasks over mixtures: the least costs of a mixture with a given sum, and price rows that meet limits."""

from shutopen.exact import zeros
from shutopen.tableau import Tableau


def solve(columns, goals, costs):
    return answer(columns, goals, costs, False)


def solve_in_order(columns, goals, costs):
    return answer(columns, goals, costs, True)


def met(rows, limits, width):
    # The weights of broken limits are a mixture with the sum 0 that costs less than nothing at these limits, and
    # the prices that forbid such a mixture meet the limits.
    found = solve(rows, zeros(width), limits)
    if found[0] == "down":
        return ("broken", found[2])
    return ("met", found[2])


def answer(columns, goals, costs, in_order):
    tableau = Tableau(columns, goals, costs)
    places = list(range(tableau.many))
    if tableau.is_missing():
        tableau.descend(places)
    if tableau.is_missing():
        return ("none", tableau.prices_of(tableau.aims[0], 1, 1))
    tableau.settle_rows()
    tableau.aims = [tableau.aims[1]]
    place = tableau.descend(places)
    if place is not None:
        return ("down", tableau.taken_amounts(), tableau.fall(place))
    prices = tableau.prices_of(tableau.aims[0], 0, tableau.cost_factor)
    if in_order:
        put_in_order(tableau)
    return ("least", tableau.taken_amounts(), prices)


def put_in_order(tableau):
    """Lowers the amount of the first column as far as it costs nothing, then that of the second one, and so on."""
    places = kept_places(tableau, list(range(tableau.many)))
    for place in range(tableau.many):
        tableau.aims = [tableau.amount_aim(place)]
        tableau.descend(places)
        places = kept_places(tableau, places)


def kept_places(tableau, places):
    """The places of columns of which more can be taken without raising what was lowered."""
    aim = tableau.aims[0]
    return [place for place in places if aim[place] == 0]
