"""Bodies of books: their keys, whether two are the same, a price row that tells them apart, and what they share."""

from shutopen.books import unchecked_book, wide_book
from shutopen.errors import DifferentWares, DuplicateName
from shutopen.exact import lowest, whole_row
from shutopen.limits import held_under, met_lines
from shutopen.lots import together
from shutopen.needless import trimmed
from shutopen.tableau import first_other
from shutopen.tables import reduced, without_item


def key(book):
    # The least touched lot are the kinds that all borne price rows touch.
    found = together(book, ())
    if found is None:
        return "hollow"
    conditions = [(*kind.as_row(), kind.cost) for kind in book.kinds]
    kept = [whole_row(row) for row in reduced([conditions[book.place(name)] for name in found[1]])]
    return (tuple(kept), needed_sides(book.wares, [side_of(condition, kept) for condition in conditions]))


def alike(one, other):
    return parting(one, other) is None


def parting(one, other):
    check_same_wares(one, other)
    row = row_apart(one, other)
    if row is not None:
        return (0, row)
    row = row_apart(other, one)
    return None if row is None else (1, row)


def joined(one, other):
    check_same_wares(one, other)
    for name in other.names:
        if name in one:
            raise DuplicateName(name)
    return unchecked_book(one.wares, [*one.kinds, *other.kinds])


def check_same_wares(one, other):
    if one.wares != other.wares:
        raise DifferentWares()


def side_of(condition, kept):
    """A condition in whole numbers, less multiples of kept ones with which it becomes 0 at their first items."""
    numbers = list(whole_row(condition))
    for row in kept:
        numbers = without_item(numbers, row, first_other(row))
    return tuple(lowest(numbers))


def needed_sides(wares, sides):
    """The tuple of the sides, ascending, without those that hold for all rows or follow from others."""
    found = [side for side in sorted(set(sides)) if first_other(side[:-1]) is not None]
    if not found:
        return ()
    # A side follows from others just if it is needless as a kind beside them: at the first items of the kept
    # conditions all sides are 0, so that no multiples of these can be of use.
    book = wide_book(wares, [(f"side{at}", side[:-1], (side[-1], 1)) for at, side in enumerate(found)])
    return tuple([found[book.place(name)] for name in trimmed(book).names])


def row_apart(book, other):
    """A price row that is borne in a book and not in another one, None if there is none."""
    lines = [(kind.as_row(), kind.cost) for kind in book.kinds]
    word, borne = met_lines(lines, len(book.wares))
    if word == "broken":
        return None
    for kind in other.kinds:
        word, row = held_under(lines, borne, kind.as_row(), kind.cost)
        if word == "above":
            return row
    return None
