"""Corners of a body of price rows, where what a row touches determines it; and how far one can go from a row."""

from shutopen.checks import check_row
from shutopen.errors import NotBorne
from shutopen.exact import least_of, negative, over, places_in_order, product, sign
from shutopen.faces import least_places
from shutopen.lacks import lacks
from shutopen.lots import check_body, freedom, names_at
from shutopen.sums import costs_of
from shutopen.tables import null_rows, solution


def corners(book):
    check_body(book)
    if freedom(book, book.names) > 0:
        return []
    columns = [kind.as_row() for kind in book.kinds]
    costs = costs_of(book)
    rows = []
    touched_lots = []
    for places in least_places([kind.numbers for kind in book.kinds], costs):
        rows.append(solution([columns[at] for at in places], [costs[at] for at in places], len(book.wares)))
        touched_lots.append(names_at(book, places))
    return [(rows[at], touched_lots[at]) for at in places_in_order(rows)]


def free_rows(book, lot):
    names = book.ordered(lot)
    return null_rows([book.kind(name).as_row() for name in names], len(book.wares))


def swing(book, row, direction):
    check_row(row, len(book.wares))
    check_row(direction, len(book.wares))
    found = lacks(book, row)
    for name, lack in zip(book.names, found):
        if sign(lack) < 0:
            raise NotBorne(name)
    falls = [product(direction, kind.as_row()) for kind in book.kinds]
    high = least_of([over(lack, fall) for lack, fall in zip(found, falls) if sign(fall) > 0])
    low = least_of([over(lack, negative(fall)) for lack, fall in zip(found, falls) if sign(fall) < 0])
    return (None if low is None else negative(low), high)
