"""A works as one vessel: its wares are those of the basins, its kinds those of all pots, and the valves."""

from shutopen.books import wide_book
from shutopen.checks import check_row
from shutopen.exact import sum_of
from shutopen.fills import Fill
from shutopen.vessels import Vessel


def works_vessel(works):
    basins = basins_of(works)
    kinds = []
    for pot in works.pot_names():
        for kind in works.book.kinds:
            kinds.append((f"{pot}.{kind.name}", numbers_at(works, basins, pot, kind), kind.cost))
    for ware, source, goal, toll in works.valves:
        kinds.append((f"{source}.{goal}.{ware}", valve_numbers(basins, ware, source, goal), toll))
    wares = [f"{pots[0]}.{ware}" for ware, pots in basins]
    return Vessel(wide_book(wares, kinds), [state_of(works, ware, pots) for ware, pots in basins])


def put_together(works, fills, flows):
    parts = [part for fill in fills for part in fill.parts]
    return Fill(works_vessel(works).book, [*parts, *flows])


def taken_apart(works, fill):
    many = len(works.book)
    fills = []
    for at in range(len(works)):
        fills.append(Fill(works.book, fill.parts[at * many:(at + 1) * many]))
    return (tuple(fills), fill.parts[len(works) * many:])


def pot_rows(works, row):
    basins = basins_of(works)
    check_row(row, len(basins))
    found = []
    for pot in works.pot_names():
        # The basins stand in the order of their wares, and each pot has one for each ware.
        found.append(tuple([price for (_, pots), price in zip(basins, row) if pot in pots]))
    return tuple(found)


def basins_of(works):
    """The list of the pairs of a ware and the pots of a basin, in the order of the wares of the vessel."""
    found = []
    for ware in works.book.wares:
        for pot in works.pot_names():
            pots = works.basin(ware, pot)
            if pots[0] == pot:
                found.append((ware, pots))
    return found


def basin_place(works, ware, pot):
    """The index of the basin of a ware in a pot among the wares of the vessel."""
    return basins_of(works).index((ware, works.basin(ware, pot)))


def numbers_at(works, basins, pot, kind):
    """The numbers of a kind at the basins of a pot, and 0 at all others."""
    places = {ware: at for at, ware in enumerate(works.book.wares)}
    return tuple([kind.numbers[places[ware]] if pot in pots else 0 for ware, pots in basins])


def valve_numbers(basins, ware, source, goal):
    found = []
    for other, pots in basins:
        given = 1 if source in pots else 0
        gained = 1 if goal in pots else 0
        found.append(given - gained if other == ware else 0)
    return tuple(found)


def state_of(works, ware, pots):
    price = works.price_at(ware, pots[0])
    if price is not None:
        return ("open", price)
    at = works.book.ware_index(ware)
    return ("shut", sum_of([works.amounts_of(pot)[at] for pot in pots]))
