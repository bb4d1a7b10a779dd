"""Price rows that suit a vessel and of which more is asked: kinds that they touch, products that they have."""

from shutopen.exact import minus, product
from shutopen.limits import met_lines, turned
from shutopen.shutrows import at_places, price_row, shut_columns


def suiting_row(vessel, lot, asked):
    """Looks for a borne price row that suits a vessel, touches all kinds of a lot and has with each of some rows just
    a given product: asked are pairs of a row and the product. Returns the pair of the word met and the row, or of the
    word broken and weights: one for each kind of the book, one for each kind of the lot turned about, one for each
    pair, and one for each pair turned about.
    """
    places = vessel.shut_places()
    prices = vessel.open_prices()
    borne = list(zip(shut_columns(vessel), vessel.net_costs()))
    touching = [turned(line) for name, line in zip(vessel.book.names, borne) if name in lot]
    equal = [(at_places(row, places), minus(goal, product(prices, row))) for row, goal in asked]
    lines = [*borne, *touching, *equal, *[turned(line) for line in equal]]
    word, found = met_lines(lines, len(places))
    return (word, price_row(vessel, found) if word == "met" else found)
