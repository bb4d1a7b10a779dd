"""What several tests need: the example of the document, values of all kinds, and sums by Python's own fractions."""

import random
import unittest
from fractions import Fraction
from itertools import combinations

from shutopen.bench import Bench
from shutopen.books import Book, wide_book
from shutopen.errors import InvalidName
from shutopen.fills import Fill
from shutopen.kinds import Kind
from shutopen.looks import Looks
from shutopen.owners import Owners
from shutopen.pivots import solve
from shutopen.reactions import Reaction
from shutopen.vessels import Vessel
from shutopen.works import Works

EXAMPLE = ("wares water salt heat\n"
           "kind ice 1 0 0 cost 0\n"
           "kind water 1 0 2 cost 6\n"
           "kind salt 0 1 0 cost 0\n"
           "kind brine 3 1 8 cost 18\n"
           "kind steam 1 0 12 cost 46\n")


def example_book():
    return Book.read(EXAMPLE)


def example_vessel(heat=("open", (5, 2))):
    return Vessel(example_book(), [("shut", (4, 1)), ("shut", (1, 1)), heat])


def any_values():
    """Values of all kinds that are no names, numbers, fractions, rows, lists with items, ..."""
    book = Book(["a"], Kind("a", (1,)))
    vessel = Vessel(book, [("shut", (1, 1))])
    return [None, True, False, "", "A b", "open", 7, -1, 1.5, (), [], {}, {"a": (1, 1)}, {"a": [1, {}]}, (None,), [None],
            [True], (True, 1), (1, True), ((True, 1),), [(1, 1)], [[1, 1]], ((2, 4),), "word", {"x": None}, (((1, 1),),),
            book, Kind("a", (1,)), vessel, Fill(book, [(1, 1)]), [book], (vessel, [book]), InvalidName("x"), Reaction(book, [1]),
            Works(book, [("a", ((1, 1),))]), Looks(book), Owners(vessel, ("a", ((1, 1),))), Bench(book)]


def frac(value):
    """A fraction of the program as one of Python, after a look at its form."""
    assert isinstance(value, tuple) and len(value) == 2, value
    n, d = value
    assert type(n) is int and type(d) is int and d >= 1, value
    found = Fraction(n, d)
    assert (found.numerator, found.denominator) == value, value
    return found


def fracs(row):
    assert isinstance(row, tuple), row
    return [frac(item) for item in row]


def pair(value):
    value = Fraction(value)
    return (value.numerator, value.denominator)


def row(*items):
    """A row of the program of numbers, Python's fractions or texts of fractions."""
    return tuple([pair(item) for item in items])


def dot(one, other):
    """The product of two rows as one of Python's fractions."""
    assert len(one) == len(other), (one, other)
    return sum([a * b for a, b in zip(fracs(one), fracs(other))], Fraction(0))


def summed(rows, weights, width):
    """The sum of rows times weights, as a list of Python's fractions."""
    assert len(rows) == len(weights), (rows, weights)
    return [sum([frac(item[at]) * frac(weight) for item, weight in zip(rows, weights)], Fraction(0))
            for at in range(width)]


def fraction_list(rnd, many, low=-4, high=4, parts=3):
    return tuple([pair(Fraction(rnd.randint(low, high), rnd.randint(1, parts))) for _ in range(many)])


def solved(columns, goals):
    """The only weights with which independent columns have the sum goals, as Python's fractions; None if the columns
    are dependent or no weights have this sum. Plain elimination, as a check that shares nothing with the program.
    """
    many = len(columns)
    left = [[frac(column[at]) for column in columns] + [frac(goal)] for at, goal in enumerate(goals)]
    steps = []
    for place in range(many):
        step = next((line for line in left if line[place] != 0), None)
        if step is None:
            return None
        left.remove(step)
        step = [item / step[place] for item in step]
        left = [[a - line[place] * b for a, b in zip(line, step)] for line in left]
        steps = [[a - line[place] * b for a, b in zip(line, step)] for line in steps] + [step]
    if any(line[many] != 0 for line in left):
        return None
    return [line[many] for line in steps]


def basic_mixtures(columns, goals):
    """All mixtures over independent columns with the sum goals, as lists of Python's fractions."""
    found = []
    for size in range(min(len(columns), len(goals)) + 1):
        for places in combinations(range(len(columns)), size):
            weights = solved([columns[at] for at in places], goals)
            if weights is not None and all(weight >= 0 for weight in weights):
                mixture = [Fraction(0)] * len(columns)
                for at, weight in zip(places, weights):
                    mixture[at] = weight
                found.append(mixture)
    return found


def shut_columns(vessel):
    places = [at for at, state in enumerate(vessel.states) if state[0] == "shut"]
    return [tuple([kind.as_row()[at] for at in places]) for kind in vessel.book.kinds], tuple([vessel.amounts[at] for at in places])


def net_costs(vessel):
    """The net costs by [6], with Python's own fractions."""
    return [frac(kind.cost) - sum(frac(value) * number for (word, value), number in zip(vessel.states, kind.numbers) if word == "open")
            for kind in vessel.book.kinds]


def random_vessels(seed, many):
    rnd = random.Random(seed)
    for _ in range(many):
        wares = "abcd"[:rnd.randint(1, 4)]
        kinds = []
        for name in "qrstuv"[:rnd.randint(1, 6)]:
            numbers = [rnd.randint(-1, 3) if rnd.random() < 0.8 else 0 for _ in wares]
            if kinds and rnd.random() < 0.2:
                numbers = rnd.choice(kinds).numbers
            kinds.append(Kind(name, numbers, cost=pair(Fraction(rnd.randint(-1, 5), rnd.randint(1, 2)))))
        book = Book(list(wares), *kinds)
        inside = Fill(book, fraction_list(rnd, len(kinds), 0, 3, 2)).contents
        if rnd.random() < 0.3:
            inside = fraction_list(rnd, len(wares))
        states = [("shut", part) if rnd.random() < 0.7 else ("open", pair(Fraction(rnd.randint(-4, 4), 2))) for part in inside]
        yield Vessel(book, states)


class Case(unittest.TestCase):
    def raised(self, error, function, *values, **more):
        with self.assertRaises(error) as caught:
            function(*values, **more)
        self.assertIs(type(caught.exception), error)
        return caught.exception

    def hold_best_row(self, vessel, fill, prices):
        """Holds a fill and a row against the sums of [8] for a rest."""
        numbers = [kind.as_row() for kind in vessel.book.kinds]
        self.assertIs(type(fill), Fill)
        self.assertEqual(fill.book, vessel.book)
        self.assertTrue(all(item >= 0 for item in fracs(fill.parts)))
        contents = summed(numbers, fill.parts, len(vessel.states))
        for (word, value), part, price in zip(vessel.states, contents, prices):
            self.assertEqual(frac(value), part if word == "shut" else frac(price))
        self.assertEqual(len(fracs(prices)), len(vessel.states))
        for kind, part in zip(vessel.book.kinds, fill.parts):
            lack = frac(kind.cost) - dot(prices, kind.as_row())
            self.assertGreaterEqual(lack, 0)
            self.assertTrue(part == (0, 1) or lack == 0)


def own_rank(rows):
    """The rank of rows, by plain elimination."""
    left = [fracs(line) for line in rows]
    found = 0
    for place in range(len(left[0]) if left else 0):
        step = next((line for line in left if line[place] != 0), None)
        if step is not None:
            found += 1
            left.remove(step)
            left = [[a - line[place] / step[place] * b for a, b in zip(line, step)] for line in left]
    return found


def basic_rests(vessel):
    """All rests over kinds that are independent at the shut wares, as lists of Python's fractions. Empty if no fill fits;
    callers know that the vessel does not run away.
    """
    fills = basic_mixtures(*shut_columns(vessel))
    costs = net_costs(vessel)
    burdens = [sum(a * b for a, b in zip(fill, costs)) for fill in fills]
    return [fill for fill, burden in zip(fills, burdens) if burden == min(burdens)]


def basic_ways_on(vessel):
    """Mixtures with the sum 1 of all items, contents 0 at the shut wares and the burden 0, whose kinds are as few as can be:
    with sums of these one can go on from each rest without end.
    """
    columns, _ = shut_columns(vessel)
    columns = [(*column, pair(cost), (1, 1)) for column, cost in zip(columns, net_costs(vessel))]
    return basic_mixtures(columns, row(*[0] * (len(columns[0]) - 1), 1))


def wide_kinds(many, wares="abc"):
    """A book of so many kinds, with equal ones, multiples and a kind of zeros among them."""
    kinds = [(f"k{at}", tuple((at * step) // 2 % 4 for step in range(1, len(wares) + 1)), (at % 3, 1)) for at in range(many)]
    return wide_book(tuple(wares), kinds)


def all_shut(book):
    return Vessel(book, [("shut", (0, 1))] * len(book.wares))


def exactly_touched(columns, costs, places):
    """Whether some row has with each column at some places a product of just its cost, and with all others a smaller one.
    The row and a step t up to 1, by which the other products stay below, are prices of one task: it has the greatest t.
    """
    tasks = []
    for at, (column, cost) in enumerate(zip(columns, costs)):
        if at in places:
            tasks.append(((*column, (0, 1)), cost))
            tasks.append((row(*[-frac(item) for item in column], 0), pair(-frac(cost))))
        else:
            tasks.append(((*column, (1, 1)), cost))
    tasks.append((row(*[0] * len(columns[0]), 1), (1, 1)))
    found = solve([column for column, _ in tasks], row(*[0] * len(columns[0]), 1), tuple([cost for _, cost in tasks]))
    return found[0] == "least" and frac(found[2][-1]) > 0


def lots_by_sets(names, columns, costs):
    """All touched lots, by a look at each set of kinds, in the order of [14] and [18]."""
    return [tuple([names[at] for at in places]) for size in range(len(names) + 1)
            for places in combinations(range(len(names)), size) if exactly_touched(columns, costs, places)]


def basic_rows(columns, costs, width):
    """The rows that have with each column a product of at most its cost, and with width independent ones just their costs,
    as tuples of Python's fractions.
    """
    found = set()
    for places in combinations(range(len(columns)), width):
        chosen = [columns[at] for at in places]
        if own_rank(chosen) == width:
            # The prices are weights of the wares: each ware with its numbers in the chosen columns.
            by_wares = [tuple([column[at] for column in chosen]) for at in range(width)]
            prices = solved(by_wares, [costs[at] for at in places])
            if all(sum(a * frac(b) for a, b in zip(prices, column)) <= frac(cost) for column, cost in zip(columns, costs)):
                found.add(tuple(prices))
    return sorted(found)
