"""Splitting a change of a vessel into least reactions, each told in the direction in which the change does it."""

from shutopen.errors import InvalidReaction
from shutopen.exact import ZERO, added, least_of, negative, over, scaled, sign, whole_row, zeros
from shutopen.reactions import Reaction, is_change
from shutopen.shutrows import shut_columns, with_items
from shutopen.tables import null_rows


def split(vessel, change):
    if not is_change(vessel, change):
        raise InvalidReaction()
    columns = shut_columns(vessel)
    left = change
    pairs = []
    while places_in(left):
        reaction = Reaction(vessel.book, whole_row(least_within(columns, left)))
        weight = share_within(left, reaction.as_row())
        pairs.append((weight, reaction))
        left = added(left, scaled(reaction.as_row(), negative(weight)))
    return pairs


def least_within(columns, change):
    """A change over as few kinds as can be that uses up and makes only what a change uses up and makes."""
    found = change
    other = fewer_within(columns, found)
    while other is not None:
        # One kind or more comes to 0, none goes beyond it.
        found = added(found, scaled(other, negative(share_within(found, other))))
        other = fewer_within(columns, found)
    return found


def fewer_within(columns, change):
    """A change other than zero over some of the kinds of a change, not all of them, that goes at one kind or more
    in the same direction. None if there is none.
    """
    places = places_in(change)
    rows = [tuple([columns[at][ware] for at in places]) for ware in range(len(columns[0]))]
    free = null_rows(rows, len(places))
    if len(free) < 2:
        return None
    found = with_items(zeros(len(change)), places, free[0])
    return scaled(found, (-1, 1)) if share_within(change, found) is None else found


def share_within(change, other):
    """How often another change can be taken away until the first kind that both use up or both make comes to 0; None
    if there is no such kind.
    """
    return least_of([over(item, part) for item, part in zip(change, other) if sign(item) * sign(part) > 0])


def places_in(change):
    """The indexes of the kinds that a change uses up or makes."""
    return [at for at, item in enumerate(change) if item != ZERO]
