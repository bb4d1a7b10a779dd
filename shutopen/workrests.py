"""What rests in a works: a fill for each pot, the flows through the valves, and the prices in each pot."""

from shutopen.bestrows import suiting_row
from shutopen.exact import ONE, ZERO, added, compared, minus, scaled, zeros
from shutopen.fills import Fill
from shutopen.lacks import is_borne, touches
from shutopen.rests import rest_of
from shutopen.shutrows import with_items
from shutopen.words import is_mixture
from shutopen.workvessels import basin_place, pot_rows, put_together, taken_apart, works_vessel


class WorksRest:
    """The told rest of a works, with prices for each pot and the least burden."""

    def __init__(self, works, joint):
        self.plan = works
        self.joint = joint
        self.fills, self.flows = taken_apart(works, joint.fill)
        self.rows = pot_rows(works, joint.row)
        self.burden = joint.burden

    def __repr__(self):
        return f"WorksRest({len(self.fills)} pots)"


def works_rest(works):
    return WorksRest(works, rest_of(works_vessel(works)))


def is_works_rest(works, fills, flows, rows):
    if not are_fills(works, fills) or not is_mixture(flows, len(works.valves)) or not are_borne(works, rows):
        return False
    if not works_vessel(works).fits(put_together(works, fills, flows)):
        return False
    if not all([touches(works.book, row, fill) for row, fill in zip(rows, fills)]):
        return False
    return is_even(works, rows) and is_held_by_valves(works, flows, rows)


def settled(works):
    fills = works_rest(works).fills
    pots = [(name, fill.contents) for name, fill in zip(works.pot_names(), fills)]
    return works.replaced(pots=pots)


def agreeing(works, ware, one, other):
    works.check_places(ware, one, other)
    rest = works_rest(works).joint
    prices = zeros(len(rest.row))
    first = with_items(prices, [basin_place(works, ware, one)], [ONE])
    second = with_items(prices, [basin_place(works, ware, other)], [ONE])
    difference = added(first, scaled(second, (-1, 1)))
    return best_rows(works, rest.fill.lot, [(difference, ZERO)])


def best_rows(works, lot, asked):
    """The tuple of the price rows of all pots of a row of the vessel of a works as suiting_row finds it, None if there
    is none.
    """
    word, row = suiting_row(works_vessel(works), lot, asked)
    return pot_rows(works, row) if word == "met" else None


def are_fills(works, value):
    """Whether a value, of any kind, is a tuple of fills of the book of a works, one for each pot."""
    if not isinstance(value, tuple) or len(value) != len(works):
        return False
    return all([isinstance(fill, Fill) and fill.book == works.book for fill in value])


def are_borne(works, value):
    """Whether a value, of any kind, is a tuple of borne price rows, one for each pot."""
    if not isinstance(value, tuple) or len(value) != len(works):
        return False
    return all([is_borne(works.book, row) for row in value])


def is_even(works, rows):
    """Whether prices are alike across each gate and are those of the doors."""
    gates = [price_in(works, rows, ware, one) == price_in(works, rows, ware, other) for ware, one, other in works.gates]
    doors = [price_in(works, rows, ware, pot) == price for ware, pot, price in works.doors]
    return all([*gates, *doors])


def is_held_by_valves(works, flows, rows):
    """Whether at each valve the price falls by the toll at most, and by just the toll where something flows."""
    for (ware, source, goal, toll), flow in zip(works.valves, flows):
        fall = minus(price_in(works, rows, ware, source), price_in(works, rows, ware, goal))
        beyond = compared(fall, toll)
        if beyond > 0 or (beyond < 0 and flow != ZERO):
            return False
    return True


def price_in(works, rows, ware, pot):
    return rows[works.pot_place(pot)][works.book.ware_index(ware)]
