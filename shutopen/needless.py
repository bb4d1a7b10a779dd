"""Kinds without which the body of a book stays the same, and whether some borne price row touches a kind."""

from shutopen.exact import ONE, ZERO, added, minus, over, product, scaled, sign, zeros
from shutopen.lots import check_not_hollow, held_task
from shutopen.pivots import met, solve
from shutopen.shutrows import at_places, with_items
from shutopen.sums import costs_of


def needless(book, name):
    at = book.place(name)
    others = [place for place in range(len(book)) if place != at]
    columns = [book.kinds[place].as_row() for place in others]
    taken = mixture_for(columns, at_places(costs_of(book), others), book.kinds[at])
    return None if taken is None else with_items(zeros(len(book)), others, taken)


def trimmed(book):
    left = book
    for name in book.names[::-1]:
        if len(left) > 1 and needless(left, name) is not None:
            left = left.without(name)
    return left


def shows(book, name):
    at = book.place(name)
    check_not_hollow(book)
    columns, costs = held_task(book, (name,))
    found = met(columns, costs, len(book.wares))
    if found[0] == "met":
        return ("shows", found[1])
    # The last weight is that of the kind turned about. It is above the own weight of the kind, as otherwise the
    # weights, less it, would show that the book is hollow.
    *weights, turned = found[1]
    share = over(ONE, minus(turned, weights[at]))
    return ("never", with_items(scaled(weights, share), [at], [ZERO]))


def mixture_for(columns, costs, kind):
    """A mixture of columns whose sum is the numbers of a kind and that costs no more, None if there is none."""
    found = solve(columns, kind.as_row(), costs)
    if found[0] == "none":
        return None
    left = minus(kind.cost, product(found[1], costs))
    if sign(left) >= 0:
        return found[1]
    if found[0] == "least":
        return None
    return added(found[1], scaled(found[2], over(left, product(found[2], costs))))
