"""Changes of a vessel, reactions (changes in whole numbers), and the least ones, which use as few kinds as can be."""

from shutopen.checks import check_searched
from shutopen.errors import InvalidReaction
from shutopen.exact import ZERO, lowest, number_text, product
from shutopen.shutrows import shut_columns, shut_numbers
from shutopen.sums import contents_by
from shutopen.tableau import first_other, unit_numbers
from shutopen.tables import rank, without_item
from shutopen.words import is_number, is_row


class Reaction:
    """Numbers for the kinds of a book without a common divisor: negative for what is used up, positive for what is
    made.
    """

    def __init__(self, book, parts):
        if not are_parts(parts, len(book.kinds)):
            raise InvalidReaction()
        self.book = book
        self.parts = tuple(lowest(parts))
        self.lot = tuple([name for name, part in zip(book.names, self.parts) if part != 0])

    def as_row(self):
        return tuple([(part, 1) for part in self.parts])

    def used(self):
        return tuple([name for name, part in zip(self.book.names, self.parts) if part < 0])

    def made(self):
        return tuple([name for name, part in zip(self.book.names, self.parts) if part > 0])

    def contents_of(self):
        found = []
        for at in range(len(self.book.wares)):
            found.append(sum([part * kind.numbers[at] for part, kind in zip(self.parts, self.book.kinds)]))
        return tuple(found)

    def uses_only(self, fill):
        return all([name in fill for name in self.used()])

    def __neg__(self):
        return Reaction(self.book, [-part for part in self.parts])

    def __eq__(self, other):
        return isinstance(other, Reaction) and self.book == other.book and self.parts == other.parts

    def __len__(self):
        return len(self.lot)

    def __str__(self):
        return str(parts_text(self.book.names, self.parts))

    def __repr__(self):
        return f"Reaction({len(self.lot)} kinds)"


def is_change(vessel, value):
    if not is_row(value, len(vessel.book.kinds)):
        return False
    contents = contents_by(vessel.book, value)
    return all([contents[at] == ZERO for at in vessel.shut_places()])


def reaction_cost(vessel, reaction):
    return product(reaction.as_row(), vessel.net_costs())


def is_least(vessel, reaction):
    if not is_change(vessel, reaction.as_row()):
        return False
    columns = [column for column, part in zip(shut_columns(vessel), reaction.parts) if part != 0]
    # Just then all changes over these kinds are multiples of one.
    return rank(columns) == len(columns) - 1


def least_reactions(vessel):
    check_searched(vessel.book)
    for parts in least_parts(shut_numbers(vessel)):
        yield Reaction(vessel.book, parts)


def least_parts(columns):
    """The parts of all least reactions over columns of numbers, the first part other than 0 below 0, ordered by the
    tuples of the indexes of their kinds.
    """
    many = len(columns)
    rows = [(at, [*column, *unit_numbers(at, many)]) for at, column in enumerate(columns)]
    found = []
    gather_least(found, rows, len(columns[0]), ())
    return [used_first(parts) for parts in found]


def gather_least(found, rows, width, chosen):
    """Puts the parts of least reactions into a list: of those over chosen columns, which are independent, and one or
    more of the columns of some rows. A row is the pair of the index of a column and of numbers: a multiple of the
    column, less multiples of the chosen ones, and behind it these multiples.
    """
    for k, (at, numbers) in enumerate(rows):
        place = first_other(numbers[:width])
        if place is not None:
            later = [(other, without_item(more, numbers, place)) for other, more in rows[k + 1:]]
            gather_least(found, later, width, (*chosen, at))
        elif all([numbers[width + other] != 0 for other in chosen]):
            found.append(numbers[width:])


def used_first(parts):
    return [-part for part in parts] if parts[first_other(parts)] > 0 else parts


def are_parts(value, many):
    if not isinstance(value, (list, tuple)) or len(value) != many:
        return False
    return all([is_number(part) for part in value]) and any([part != 0 for part in value])


def parts_text(names, parts):
    used = side_text([(-part, name) for name, part in zip(names, parts) if part < 0])
    made = side_text([(part, name) for name, part in zip(names, parts) if part > 0])
    return f"{used} to {made}"


def side_text(pairs):
    """The text of one side of a reaction, of pairs of a positive number and a name."""
    return ", ".join([f"{number_text(number)} {name}" for number, name in pairs]) or "nothing"
