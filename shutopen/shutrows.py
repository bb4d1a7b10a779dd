"""Rows over the shut wares of a vessel alone, and rows over all wares that are made from them."""

from shutopen.exact import zeros


def shut_numbers(vessel):
    """For each kind, the tuple of its numbers at the shut wares."""
    return [at_places(kind.numbers, vessel.shut_places()) for kind in vessel.book.kinds]


def shut_columns(vessel):
    """For each kind, the row of its numbers at the shut wares."""
    return [at_places(kind.as_row(), vessel.shut_places()) for kind in vessel.book.kinds]


def shut_amounts(vessel):
    return at_places(vessel.amounts, vessel.shut_places())


def price_row(vessel, items):
    """The row with prices for the shut wares and the own prices of the open ones."""
    return with_items(vessel.open_prices(), vessel.shut_places(), items)


def shut_row(vessel, items):
    """The row with items for the shut wares and 0 at the open ones."""
    return with_items(zeros(len(vessel.states)), vessel.shut_places(), items)


def at_places(row, places):
    return tuple([row[at] for at in places])


def with_items(row, places, items):
    """The row with other items at some places."""
    found = list(row)
    for at, item in zip(places, items):
        found[at] = item
    return tuple(found)
