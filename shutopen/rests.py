"""The end of a vessel, and its told rest if it rests."""

from shutopen.errors import RunsAway, Unfillable
from shutopen.exact import zeros
from shutopen.fills import Fill
from shutopen.pivots import solve, solve_in_order
from shutopen.shutrows import price_row, shut_amounts, shut_columns, shut_row
from shutopen.sums import costs_of


class Rest:
    """The told rest of a vessel, with a best row and the least burden."""

    def __init__(self, vessel, fill, row):
        self.vessel = vessel
        self.fill = fill
        self.row = row
        self.burden = vessel.burden_of(fill)

    def __repr__(self):
        return f"Rest({len(self.fill)} kinds)"


def end_of(vessel):
    found = solve_in_order(shut_columns(vessel), shut_amounts(vessel), vessel.net_costs())
    if found[0] == "none":
        return ("unfillable", shut_row(vessel, found[1]))
    if found[0] == "down":
        return ("runs", Fill(vessel.book, found[1]), found[2])
    return ("rests", Fill(vessel.book, found[1]), price_row(vessel, found[2]))


def rest_of(vessel):
    end = end_of(vessel)
    if end[0] == "unfillable":
        raise Unfillable(end[1])
    if end[0] == "runs":
        raise RunsAway(end[1], end[2])
    return Rest(vessel, end[1], end[2])


def hollow_paper(book):
    found = solve([kind.as_row() for kind in book.kinds], zeros(len(book.wares)), costs_of(book))
    return found[2] if found[0] == "down" else None
