"""Papers: tuples that show something of a vessel, a book, owners or looks, and that anybody can multiply out."""

from shutopen.books import Book
from shutopen.checks import first_double
from shutopen.ends import is_hollow_by, is_rest, is_runaway, is_unfillable
from shutopen.exact import ZERO, added, compared, minus, negative, product, scaled, sign, zeros
from shutopen.lacks import is_borne, lacks, touched
from shutopen.limits import limits_of
from shutopen.looks import Looks
from shutopen.needless import needless, shows
from shutopen.owners import Owners
from shutopen.reactions import Reaction, is_change, reaction_cost
from shutopen.rests import end_of, hollow_paper
from shutopen.sums import contents_by, cost_by
from shutopen.sure import maybe
from shutopen.vessels import Vessel
from shutopen.words import is_fraction, is_listed, is_mixture, is_number, is_row


def rest_holds(vessel, fill, row):
    return isinstance(vessel, Vessel) and is_rest(vessel, fill, row)


def unfillable_holds(vessel, row):
    return isinstance(vessel, Vessel) and is_unfillable(vessel, row)


def runs_holds(vessel, fill, mixture):
    return isinstance(vessel, Vessel) and is_runaway(vessel, fill, mixture)


def hollow_holds(book, mixture):
    return isinstance(book, Book) and is_hollow_by(book, mixture)


def downhill_holds(vessel, fill, reaction):
    if not isinstance(vessel, Vessel) or not vessel.fits(fill) or not is_reaction_of(vessel.book, reaction):
        return False
    if not is_change(vessel, reaction.as_row()) or sign(reaction_cost(vessel, reaction)) >= 0:
        return False
    return reaction.uses_only(fill)


def together_holds(book, lot, row):
    if not isinstance(book, Book) or not is_lot(book, lot) or not is_borne(book, row):
        return False
    return all([name in touched(book, row) for name in lot])


def apart_holds(book, lot, reaction):
    if not isinstance(book, Book) or not is_lot(book, lot) or not is_reaction_of(book, reaction):
        return False
    if any([number != 0 for number in reaction.contents_of()]) or sign(cost_by(book, reaction.as_row())) >= 0:
        return False
    return all([name in lot for name in reaction.used()])


def barred_holds(vessel, fill, row, name):
    if not rest_holds(vessel, fill, row) or not is_listed(name, vessel.book.names):
        return False
    return sign(lacks(vessel.book, row)[vessel.book.place(name)]) > 0


def needless_holds(book, name, mixture):
    return is_made_by(book, name, mixture) and sign(spared(book, name, mixture)) >= 0


def never_holds(book, name, mixture):
    return is_made_by(book, name, mixture) and sign(spared(book, name, mixture)) > 0


def shows_holds(book, name, row):
    return isinstance(book, Book) and is_borne(book, row) and is_listed(name, touched(book, row))


def parts_holds(book, other, row):
    if not isinstance(book, Book) or not isinstance(other, Book) or book.wares != other.wares:
        return False
    return is_borne(book, row) and not is_borne(other, row)


def undone_holds(owners, shares, copies, fill):
    if not isinstance(owners, Owners) or not is_row(shares, len(owners)) or not are_copies(owners, copies):
        return False
    vessel = owners.copies_vessel(copies)
    if not vessel.fits(fill):
        return False
    total = product(shares, tuple([(number, 1) for number in copies]))
    return compared(vessel.burden_of(fill), total) < 0


def clash_holds(looks, weights):
    if not are_weights(looks, weights):
        return False
    return summed_rows(looks, weights) == zeros(looks.width()) and sign(summed_limits(looks, weights)) < 0


def sure_holds(looks, costs, d, weights):
    if not are_weights(looks, weights) or not is_row(costs, len(looks.book)) or not is_fraction(d):
        return False
    goals = (*scaled(costs, (-1, 1)), *zeros(looks.width() - len(costs)))
    return summed_rows(looks, weights) == goals and compared(summed_limits(looks, weights), negative(d)) <= 0


HOLDING = {
    "rest": rest_holds,
    "unfillable": unfillable_holds,
    "runs": runs_holds,
    "hollow": hollow_holds,
    "downhill": downhill_holds,
    "together": together_holds,
    "apart": apart_holds,
    "barred": barred_holds,
    "needless": needless_holds,
    "never": never_holds,
    "shows": shows_holds,
    "parts": parts_holds,
    "undone": undone_holds,
    "clash": clash_holds,
    "sure": sure_holds,
}

# How many items stand behind each word.
SIZES = {
    "rest": 3,
    "unfillable": 2,
    "runs": 3,
    "hollow": 2,
    "downhill": 3,
    "together": 3,
    "apart": 3,
    "barred": 4,
    "needless": 3,
    "never": 3,
    "shows": 3,
    "parts": 3,
    "undone": 4,
    "clash": 2,
    "sure": 4,
}


def holds(value):
    if not isinstance(value, tuple) or not value or not isinstance(value[0], str):
        return False
    word, *items = value
    if word not in SIZES or len(items) != SIZES[word]:
        return False
    is_held = HOLDING[word]
    return is_held(*items)


def papers_of(vessel):
    end = end_of(vessel)
    if end[0] == "unfillable":
        return [("unfillable", vessel, end[1])]
    if end[0] == "runs":
        return [("runs", vessel, end[1], end[2])]
    lot, fill, row = maybe(vessel)
    barred = [name for name in vessel.book.names if name not in lot]
    return [("rest", vessel, end[1], end[2]), *[("barred", vessel, fill, row, name) for name in barred]]


def book_papers(book):
    mixture = hollow_paper(book)
    if mixture is not None:
        return [("hollow", book, mixture)]
    found = []
    for name in book.names:
        word, paper = shows(book, name)
        found.append((word, book, name, paper))
        mixture = needless(book, name)
        if mixture is not None:
            found.append(("needless", book, name, mixture))
    return found


def is_reaction_of(book, value):
    return isinstance(value, Reaction) and value.book == book


def is_lot(book, value):
    if not isinstance(value, tuple) or not all([is_listed(name, book.names) for name in value]):
        return False
    return first_double(value) is None


def is_made_by(book, name, mixture):
    """Whether a mixture of the other kinds of a book has the same contents as a kind."""
    if not isinstance(book, Book) or not is_listed(name, book.names) or not is_mixture(mixture, len(book)):
        return False
    at = book.place(name)
    return mixture[at] == ZERO and contents_by(book, mixture) == book.kinds[at].as_row()


def spared(book, name, mixture):
    """How much less a mixture costs than a kind."""
    return minus(book.kind(name).cost, cost_by(book, mixture))


def are_copies(owners, value):
    if not isinstance(value, tuple) or len(value) != len(owners):
        return False
    return all([is_number(number) and number >= 0 for number in value])


def are_weights(looks, value):
    return isinstance(looks, Looks) and is_mixture(value, len(looks.lines()))


def summed_rows(looks, weights):
    """The sum of the weights times the rows of the lines of looks."""
    total = zeros(looks.width())
    for (row, _), weight in zip(looks.lines(), weights):
        total = added(total, scaled(row, weight))
    return total


def summed_limits(looks, weights):
    return product(limits_of(looks.lines()), weights)
