"""Extents: the stretch of the amounts of a kind, or of the contents of a ware, over all rests of a vessel."""

from shutopen.exact import ZERO, fraction_text, negative, product, scaled
from shutopen.fills import Fill
from shutopen.pivots import solve
from shutopen.rests import rest_of
from shutopen.shutrows import shut_amounts, shut_columns, shut_row


class Extent:
    """Both ends of an extent, each with a rest and a paper; a mixture in the place of an end that there is not."""

    def __init__(self, least, greatest, endless):
        self.least, self.low, self.floor = least
        self.greatest, self.high, self.ceiling = greatest
        self.endless = endless

    def __repr__(self):
        return f"Extent({fraction_text(self.least)} to {end_text(self.greatest)})"


def extent(vessel, name):
    at = vessel.book.place(name)
    rest = rest_of(vessel)
    costs = [(1, 1) if k == at else ZERO for k in range(len(vessel.book))]
    found = least_over_rests(rest, costs)
    least = (found[1][at], Fill(vessel.book, found[1]), paper_of(vessel, found[2]))
    found = least_over_rests(rest, scaled(costs, (-1, 1)))
    if found[0] == "down":
        return Extent(least, (None, None, None), found[2])
    # What bounds the negative amount from below bounds the amount from above, turned about.
    paper = paper_of(vessel, scaled(found[2], (-1, 1)))
    return Extent(least, (found[1][at], Fill(vessel.book, found[1]), paper), None)


def held(vessel, ware):
    at = vessel.book.ware_index(ware)
    rest = rest_of(vessel)
    numbers = [kind.as_row()[at] for kind in vessel.book.kinds]
    low = least_product(rest, numbers)
    high = least_product(rest, scaled(numbers, (-1, 1)))
    return (low, None if high is None else negative(high))


def least_product(rest, costs):
    """The least product of a row and the amounts of a rest, None if there is none."""
    found = least_over_rests(rest, costs)
    return product(found[1], costs) if found[0] == "least" else None


def least_over_rests(rest, costs):
    """The task of the least costs of all rests of a vessel: of the fills that fit and have the burden of one rest."""
    vessel = rest.vessel
    columns = [(*column, net) for column, net in zip(shut_columns(vessel), vessel.net_costs())]
    return solve(columns, (*shut_amounts(vessel), rest.burden), costs)


def paper_of(vessel, prices):
    """The paper of an end, of prices for the shut wares and behind them one for the burden."""
    return (shut_row(vessel, prices[:-1]), prices[-1])


def end_text(greatest):
    return "endless" if greatest is None else fraction_text(greatest)
