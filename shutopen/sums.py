"""Sums over all kinds of a book, by a row with a weight for each."""

from shutopen.exact import ZERO, plus, product, times


def contents_by(book, weights):
    """The row that has for each ware the sum of the weights times the numbers of the kinds."""
    found = []
    for at in range(len(book.wares)):
        total = ZERO
        for kind, weight in zip(book.kinds, weights):
            total = plus(total, times(weight, (kind.numbers[at], 1)))
        found.append(total)
    return tuple(found)


def costs_of(book):
    return tuple([kind.cost for kind in book.kinds])


def cost_by(book, weights):
    return product(weights, costs_of(book))
