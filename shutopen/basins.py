"""Basins: pots that are joined by gates of a ware, directly or by way of others; and whether doors agree in them."""


def basin_of(names, gates, ware, pot):
    """The tuple of the names of the pots of a basin, in order."""
    inside = {pot: True}
    left = [pot]
    while left:
        here = left.pop()
        for own, one, other in gates:
            if own == ware and here in (one, other):
                there = other if here == one else one
                if there not in inside:
                    inside[there] = True
                    left.append(there)
    return tuple([name for name in names if name in inside])


def first_unlike(names, gates, doors):
    """The index of the first door with another price than an earlier door of its basin, None if there is none."""
    for at, (ware, pot, price) in enumerate(doors):
        basin = basin_of(names, gates, ware, pot)
        if any([earlier != price for _, _, earlier in doors_in(basin, ware, doors[:at])]):
            return at
    return None


def doors_in(basin, ware, doors):
    """The list of the doors for a ware in the pots of a basin."""
    return [door for door in doors if door[0] == ware and door[1] in basin]
