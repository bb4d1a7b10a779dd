"""The faces of a body of price rows: sets of columns that some borne row touches, and no other columns.

A row is borne here if its product with each column of numbers is at most the cost of the column; it touches those
where it is the cost. A body is made from its least faces, where the touched columns determine the most, and from
its rays, in whose directions one can go on without end: the lacks of all borne rows are sums of theirs. So the sets
of all faces are what sets of least faces and rays have in common. Sets are numbers with a bit for each column.
"""

from shutopen.exact import cleared
from shutopen.tableau import first_other
from shutopen.tables import rank, without_item


def touched_places(columns, costs):
    """The tuples of the indexes of the columns that borne rows touch, the shortest ones first, as many in the order
    of the tuples.
    """
    sets = met_sets(least_sets(columns, costs), ray_sets(columns))
    found = [places_of(one, len(columns)) for one in sets]
    keys = sorted([(len(places), places) for places in found])
    return [places for _, places in keys]


def least_places(columns, costs):
    """The tuples of the indexes of the columns that borne rows in least faces touch."""
    return [places_of(one, len(columns)) for one in least_sets(columns, costs)]


def least_sets(columns, costs):
    numbers, _ = cleared(costs)
    rows = [[*column, number] for column, number in zip(columns, numbers)]
    width = len(columns[0])
    found = {}
    for left in reductions(rows, width, 0, rank_of_columns(columns)):
        # What is left of a cost is a positive multiple of the lack under the row that touches the reducing columns.
        lacks = [row[width] for row in left]
        if min(lacks) >= 0:
            found[zero_set(lacks)] = True
    return list(found)


def ray_sets(columns):
    width = len(columns[0])
    size = rank_of_columns(columns) - 1
    found = {}
    if size >= 0:
        for left in reductions([list(column) for column in columns], width, 0, size):
            place = place_left(left)
            sides = [row[place] for row in left]
            if min(sides) >= 0 or max(sides) <= 0:
                found[zero_set(sides)] = True
    return list(found)


def place_left(rows):
    """A place that tells the multiples apart, where all rows are multiples of one row other than 0."""
    return min([first_other(row) for row in rows if first_other(row) is not None])


def reductions(rows, width, first, size):
    """For each set of so many rows, from an index on, that are independent at their first items: all rows, multiplied
    by positive numbers, less multiples of those of the set with which these become 0 at their first items.
    """
    if size == 0:
        return [rows]
    found = []
    for at in range(first, len(rows) - size + 1):
        place = first_other(rows[at][:width])
        if place is not None:
            pivot = rows[at] if rows[at][place] > 0 else [-number for number in rows[at]]
            left = [without_item(row, pivot, place) for row in rows]
            found.extend(reductions(left, width, at + 1, size - 1))
    return found


def met_sets(sets, others):
    """All sets that are in common to one or more of some sets and to any of others."""
    makers = [*sets, *others]
    found = {one: True for one in sets}
    queue = list(sets)
    while queue:
        one = queue.pop()
        for other in makers:
            common = one & other
            if common not in found:
                found[common] = True
                queue.append(common)
    return list(found)


def zero_set(numbers):
    return sum([1 << at for at, number in enumerate(numbers) if number == 0])


def places_of(one, many):
    return tuple([at for at in range(many) if one >> at & 1 == 1])


def rank_of_columns(columns):
    return rank([tuple([(number, 1) for number in column]) for column in columns])
