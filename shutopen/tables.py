"""Reduced tables of rows, and what they tell: rank, independence, null rows, solutions.

Steps of a table are pairs (place, numbers): a pivot, and a row of whole numbers that is a multiple of the row of
the reduced table with this pivot. Whole numbers need no common denominators while rows are subtracted.
"""

from shutopen.exact import ONE, ZERO, fraction, lowest, negative, whole_row


def reduced(rows):
    return [unit_row(place, numbers) for place, numbers in steps_of(rows)]


def rank(rows):
    return len(steps_of(rows))


def independent(rows):
    # The pivots of the turned table are just the rows that do not follow from those ahead of them.
    return pivots_of([tuple(column) for column in zip(*rows)])


def null_rows(rows, width):
    steps = steps_of(rows)
    pivots = [place for place, _ in steps]
    found = []
    for free in range(width):
        if free not in pivots:
            row = [ZERO] * width
            row[free] = ONE
            for place, numbers in steps:
                row[place] = negative(fraction(numbers[free], numbers[place]))
            found.append(tuple(row))
    return found


def solution(rows, goals, width):
    row = [ZERO] * width
    for place, numbers in steps_of([(*row, goal) for row, goal in zip(rows, goals)]):
        if place == width:
            return None
        row[place] = fraction(numbers[width], numbers[place])
    return tuple(row)


def pivots_of(rows):
    return [place for place, _ in steps_of(rows)]


def unit_row(place, numbers):
    return tuple([fraction(number, numbers[place]) for number in numbers])


def steps_of(rows):
    left = [list(whole_row(row)) for row in rows]
    steps = []
    for place in range(len(rows[0]) if rows else 0):
        at = first_with(left, place)
        if at is not None:
            row = left.pop(at)
            left = [without_item(other, row, place) for other in left]
            steps = [(pivot, without_item(other, row, place)) for pivot, other in steps]
            steps.append((place, row))
    return steps


def first_with(rows, place):
    for at, row in enumerate(rows):
        if row[place] != 0:
            return at
    return None


def without_item(row, other, place):
    """A multiple of a row, less the multiple of the other one with which the item at the place becomes 0."""
    keep = other[place]
    drop = row[place]
    if drop == 0:
        return row
    return lowest([item * keep - more * drop for item, more in zip(row, other)])
