"""What several tests need: the example of the document, values of all kinds, and sums by Python's own fractions."""

from fractions import Fraction
from itertools import combinations

from shutopen.books import Book
from shutopen.errors import InvalidName
from shutopen.fills import Fill
from shutopen.kinds import Kind
from shutopen.vessels import Vessel

EXAMPLE = ("wares water salt heat\n"
           "kind ice 1 0 0 cost 0\n"
           "kind water 1 0 2 cost 6\n"
           "kind salt 0 1 0 cost 0\n"
           "kind brine 3 1 8 cost 18\n"
           "kind steam 1 0 12 cost 46\n")


def example_book():
    return Book.read(EXAMPLE)


def example_vessel(heat=("open", (5, 2))):
    return Vessel(example_book(), [("shut", (4, 1)), ("shut", (1, 1)), heat])


def any_values():
    """Values of all kinds that are no names, numbers, fractions, rows, lists with items, ..."""
    book = Book(["a"], Kind("a", (1,)))
    vessel = Vessel(book, [("shut", (1, 1))])
    return [None, True, False, "", "A b", "open", 7, -1, 1.5, (), [], {}, {"a": (1, 1)}, {"a": [1, {}]}, (None,), [None],
            [True], (True, 1), (1, True), ((True, 1),), [(1, 1)], [[1, 1]], ((2, 4),), "word", {"x": None}, (((1, 1),),),
            book, Kind("a", (1,)), vessel, Fill(book, [(1, 1)]), [book], (vessel, [book]), InvalidName("x")]


def frac(value):
    """A fraction of the program as one of Python, after a look at its form."""
    assert isinstance(value, tuple) and len(value) == 2, value
    n, d = value
    assert type(n) is int and type(d) is int and d >= 1, value
    found = Fraction(n, d)
    assert (found.numerator, found.denominator) == value, value
    return found


def fracs(row):
    assert isinstance(row, tuple), row
    return [frac(item) for item in row]


def pair(value):
    value = Fraction(value)
    return (value.numerator, value.denominator)


def row(*items):
    """A row of the program of numbers, Python's fractions or texts of fractions."""
    return tuple([pair(item) for item in items])


def dot(one, other):
    """The product of two rows as one of Python's fractions."""
    assert len(one) == len(other), (one, other)
    return sum([a * b for a, b in zip(fracs(one), fracs(other))], Fraction(0))


def summed(rows, weights, width):
    """The sum of rows times weights, as a list of Python's fractions."""
    assert len(rows) == len(weights), (rows, weights)
    return [sum([frac(item[at]) * frac(weight) for item, weight in zip(rows, weights)], Fraction(0))
            for at in range(width)]


def fraction_list(rnd, many, low=-4, high=4, parts=3):
    return tuple([pair(Fraction(rnd.randint(low, high), rnd.randint(1, parts))) for _ in range(many)])


def solved(columns, goals):
    """The only weights with which independent columns have the sum goals, as Python's fractions; None if the columns
    are dependent or no weights have this sum. Plain elimination, as a check that shares nothing with the program.
    """
    many = len(columns)
    left = [[frac(column[at]) for column in columns] + [frac(goal)] for at, goal in enumerate(goals)]
    steps = []
    for place in range(many):
        step = next((line for line in left if line[place] != 0), None)
        if step is None:
            return None
        left.remove(step)
        step = [item / step[place] for item in step]
        left = [[a - line[place] * b for a, b in zip(line, step)] for line in left]
        steps = [[a - line[place] * b for a, b in zip(line, step)] for line in steps] + [step]
    if any(line[many] != 0 for line in left):
        return None
    return [line[many] for line in steps]


def basic_mixtures(columns, goals):
    """All mixtures over independent columns with the sum goals, as lists of Python's fractions."""
    found = []
    for size in range(len(columns) + 1):
        for places in combinations(range(len(columns)), size):
            weights = solved([columns[at] for at in places], goals)
            if weights is not None and all(weight >= 0 for weight in weights):
                mixture = [Fraction(0)] * len(columns)
                for at, weight in zip(places, weights):
                    mixture[at] = weight
                found.append(mixture)
    return found
