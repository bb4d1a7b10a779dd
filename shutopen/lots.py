"""Lots that can rest together, and the touched lots: just the kinds that some borne price row touches."""

from shutopen.checks import check_searched
from shutopen.errors import Hollow
from shutopen.exact import ZERO, added, fraction, negative, scaled, zeros
from shutopen.faces import touched_places
from shutopen.lacks import lacks, touched
from shutopen.pivots import met, solve
from shutopen.rests import hollow_paper
from shutopen.sums import costs_of
from shutopen.tables import rank
from shutopen.words import is_number


def together(book, lot):
    names = book.ordered(lot)
    columns, costs = held_task(book, names)
    found = met(columns, costs, len(book.wares))
    if found[0] == "broken":
        return None
    rows = [found[1]]
    for at, name in enumerate(book.names):
        if name not in names and all([lacks(book, other)[at] == ZERO for other in rows]):
            rows.append(freest_row(columns, costs, at, rows[0]))
    # The mean of borne rows touches just what all of them touch.
    row = mean_row(rows)
    return (row, touched(book, row))


def held_task(book, names):
    """The rows and limits of the borne price rows that touch some kinds: a limit for each kind, and for those that
    are touched one that turns it about.
    """
    columns = [kind.as_row() for kind in book.kinds]
    kept = [at for at, name in enumerate(book.names) if name in names]
    turned = [scaled(columns[at], (-1, 1)) for at in kept]
    costs = costs_of(book)
    return [*columns, *turned], (*costs, *[negative(costs[at]) for at in kept])


def freest_row(columns, costs, at, row):
    """A row that meets the limits, as another one does, and under which the kind at an index has a positive lack, if
    there is such a row.
    """
    found = solve(columns, scaled(columns[at], (-1, 1)), costs)
    # Where no row has the greatest lack, what was found is a direction in which the lack grows without end.
    return found[2] if found[0] == "least" else added(row, found[1])


def mean_row(rows):
    total = zeros(len(rows[0]))
    for row in rows:
        total = added(total, row)
    return scaled(total, fraction(1, len(rows)))


def rank_of(book, lot):
    names = book.ordered(lot)
    return rank([book.kind(name).as_row() for name in names])


def freedom(book, lot):
    return len(book.wares) - rank_of(book, lot)


def lots(book, *, size=None):
    check_body(book)
    for places in touched_places([kind.numbers for kind in book.kinds], costs_of(book)):
        if not is_number(size) or len(places) == size:
            yield names_at(book, places)


def check_body(book):
    """Looks at what must hold of a book whose body is gone through."""
    check_searched(book)
    check_not_hollow(book)


def check_not_hollow(book):
    mixture = hollow_paper(book)
    if mixture is not None:
        raise Hollow(mixture)


def names_at(book, places):
    return tuple([book.names[at] for at in places])
