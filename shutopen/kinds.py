"""Kinds of stuff: a name, how much of each ware is in one of it, and a cost."""

from shutopen.errors import InvalidCost, InvalidName, InvalidNumbers
from shutopen.exact import ZERO, fraction_text, number_text
from shutopen.words import is_fraction, is_name, is_number

MOST_NUMBERS = 6
MOST_OF_WARE = 99
MOST_COST = 9999
MOST_COST_PARTS = 99


class Kind:
    """A kind; it has as many numbers as the books have wares in which it may be."""

    def __init__(self, name, numbers, *, cost=ZERO):
        if not is_name(name):
            raise InvalidName(name)
        at = wrong_number(numbers)
        if at is not None:
            raise InvalidNumbers(at)
        if not is_cost(cost):
            raise InvalidCost()
        self.name = name
        self.numbers = tuple(numbers)
        self.cost = cost

    def as_row(self):
        return tuple([(number, 1) for number in self.numbers])

    def text(self):
        numbers = " ".join([number_text(number) for number in self.numbers])
        return f"kind {self.name} {numbers} cost {fraction_text(self.cost)}"

    def __eq__(self, other):
        return (isinstance(other, Kind) and self.name == other.name and self.numbers == other.numbers
                and self.cost == other.cost)

    def __repr__(self):
        return f"Kind({self.name})"


def wide_kind(name, numbers, cost):
    """A kind without the limits that Kind looks at."""
    # The constructor would look at them, so the parts are put into a kind that it takes.
    kind = Kind("a", (0,))
    kind.name = name
    kind.numbers = tuple(numbers)
    kind.cost = cost
    return kind


def wrong_number(value):
    """None if the value can be the numbers of a kind, otherwise the index of the first wrong item, -1 for all."""
    if not isinstance(value, (list, tuple)) or not 1 <= len(value) <= MOST_NUMBERS:
        return -1
    for at, item in enumerate(value):
        if not is_number(item) or abs(item) > MOST_OF_WARE:
            return at
    return None


def is_cost(value):
    return is_fraction(value) and abs(value[0]) <= MOST_COST and value[1] <= MOST_COST_PARTS
