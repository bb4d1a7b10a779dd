"""What surely and maybe rests: the maybe kinds of a vessel, and whether it has other rests and other best rows."""

from shutopen.checks import check_row
from shutopen.corners import swing
from shutopen.exact import ONE, ZERO, added, scaled, times, zeros
from shutopen.fills import Fill
from shutopen.lacks import lacks
from shutopen.pivots import solve
from shutopen.rests import rest_of
from shutopen.shutrows import at_places, shut_amounts, shut_columns, shut_row, with_items
from shutopen.tables import null_rows, rank

HALF = (1, 2)


def maybe(vessel):
    rest = rest_of(vessel)
    parts = rest.fill.parts
    row = rest.row
    for at in range(len(parts)):
        if parts[at] == ZERO and lacks(vessel.book, row)[at] == ZERO:
            found = most_at(vessel, row, at)
            if found[0] == "mixture":
                parts = scaled(added(parts, found[1]), HALF)
            else:
                row = stepped(vessel.book, row, shut_row(vessel, found[1]))
    fill = Fill(vessel.book, parts)
    return (fill.lot, fill, row)


def most_at(vessel, row, at):
    """The pair of the word mixture and the parts of a rest that has more than nothing of the kind at an index, if
    there is one. Otherwise the pair of the word prices and prices for the shut wares: they have a negative product
    with this kind, no positive one with others that the row touches, and the product 0 with the amounts.
    """
    book = vessel.book
    columns = shut_columns(vessel)
    kept = [k for k, lack in enumerate(lacks(book, row)) if lack == ZERO]
    costs = [(-1, 1) if k == at else ZERO for k in kept]
    found = solve(at_places(columns, kept), shut_amounts(vessel), costs)
    taken = found[1]
    if found[0] == "down":
        taken = added(taken, found[2])
    if found[0] == "least" and taken[kept.index(at)] == ZERO:
        return ("prices", found[2])
    return ("mixture", with_items(zeros(len(columns)), kept, taken))


def stepped(book, row, direction):
    """A borne row, moved in a direction by less than what brings a positive lack to 0. The direction lowers no lack
    that is 0.
    """
    _, most = swing(book, row, direction)
    share = ONE if most is None else times(HALF, most)
    return added(row, scaled(direction, share))


def freedoms(vessel):
    lot, _, _ = maybe(vessel)
    own = rank(columns_in(vessel, lot))
    return (len(lot) - own, len(vessel.shut_places()) - own)


def other_rest(vessel):
    # Where there are several rests, the told one does not hold all maybe kinds, as its own are independent.
    _, fill, _ = maybe(vessel)
    return None if fill == rest_of(vessel).fill else fill


def other_row(vessel, row):
    lot, _, best = maybe(vessel)
    check_row(row, len(vessel.states))
    if best != row:
        return best
    free = null_rows(columns_in(vessel, lot), len(vessel.shut_places()))
    return stepped(vessel.book, best, shut_row(vessel, free[0])) if free else None


def columns_in(vessel, lot):
    """The rows of the numbers of the kinds of a lot at the shut wares."""
    return [column for name, column in zip(vessel.book.names, shut_columns(vessel)) if name in lot]
