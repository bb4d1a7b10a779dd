"""The end of a vessel, and its told rest if it rests."""

from shutopen.errors import RunsAway, Unfillable
from shutopen.exact import zeros
from shutopen.fills import Fill
from shutopen.pivots import solve, solve_in_order
from shutopen.sums import costs_of


class Rest:
    """The told rest of a vessel, with a best row and the least burden."""

    def __init__(self, vessel, fill, row):
        self.vessel = vessel
        self.fill = fill
        self.row = row
        self.burden = vessel.burden_of(fill)

    def __repr__(self):
        return f"Rest({len(self.fill)} kinds)"


def end_of(vessel):
    book = vessel.book
    places = vessel.shut_places()
    columns = [at_places(kind.as_row(), places) for kind in book.kinds]
    found = solve_in_order(columns, at_places(vessel.amounts, places), vessel.net_costs())
    if found[0] == "none":
        return ("unfillable", with_items(zeros(len(book.wares)), places, found[1]))
    if found[0] == "down":
        return ("runs", Fill(book, found[1]), found[2])
    return ("rests", Fill(book, found[1]), with_items(vessel.open_prices(), places, found[2]))


def rest_of(vessel):
    end = end_of(vessel)
    if end[0] == "unfillable":
        raise Unfillable(end[1])
    if end[0] == "runs":
        raise RunsAway(end[1], end[2])
    return Rest(vessel, end[1], end[2])


def hollow_paper(book):
    found = solve([kind.as_row() for kind in book.kinds], zeros(len(book.wares)), costs_of(book))
    return found[2] if found[0] == "down" else None


def at_places(row, places):
    return tuple([row[at] for at in places])


def with_items(row, places, items):
    """The row with other items at some places."""
    found = list(row)
    for at, item in zip(places, items):
        found[at] = item
    return tuple(found)
