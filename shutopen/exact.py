"""Exact fractions, pairs (n, d) of numbers in lowest terms with d at least 1, and rows of them."""

from math import gcd

from shutopen.errors import ByZero

ZERO = (0, 1)
ONE = (1, 1)
MOST_DIGITS = 1000


def fraction(n, d=1):
    if d == 0:
        raise ByZero()
    common = gcd(n, d)
    if d < 0:
        common = -common
    return (n // common, d // common)


def plus(one, other):
    return fraction(one[0] * other[1] + other[0] * one[1], one[1] * other[1])


def minus(one, other):
    return fraction(one[0] * other[1] - other[0] * one[1], one[1] * other[1])


def times(one, other):
    return fraction(one[0] * other[0], one[1] * other[1])


def over(one, other):
    return fraction(one[0] * other[1], one[1] * other[0])


def negative(value):
    return (-value[0], value[1])


def sign(value):
    if value[0] == 0:
        return 0
    return 1 if value[0] > 0 else -1


def compared(one, other):
    return sign(minus(one, other))


def least_of(values):
    """The least of some fractions, None if there are none."""
    found = None
    for value in values:
        if found is None or compared(value, found) < 0:
            found = value
    return found


def places_in_order(rows):
    """The indexes of rows of one length, the least row first, by the worth of the items."""
    # With one common factor the rows become tuples of numbers, which Python orders as it should.
    numbers, _ = cleared([item for row in rows for item in row])
    width = len(rows[0]) if rows else 0
    keys = [(tuple(numbers[at * width:(at + 1) * width]), at) for at in range(len(rows))]
    return [at for _, at in sorted(keys)]


def product(one, other):
    total = ZERO
    for item, weight in zip(one, other):
        total = plus(total, times(item, weight))
    return total


def sum_of(row):
    """The sum of the items of a row."""
    total = ZERO
    for item in row:
        total = plus(total, item)
    return total


def scaled(row, value):
    return tuple([times(item, value) for item in row])


def added(one, other):
    return tuple([plus(item, more) for item, more in zip(one, other)])


def zeros(many):
    """The row of so many zeros."""
    return (ZERO,) * many


def cleared(row):
    """The pair of a list of numbers and the least positive number by which the row is multiplied to give them."""
    factor = 1
    for _, d in row:
        factor = factor * d // gcd(factor, d)
    return [n * (factor // d) for n, d in row], factor


def lowest(numbers):
    """The list of numbers, divided by their greatest common divisor."""
    common = 0
    for number in numbers:
        common = gcd(common, number)
    return [number // common for number in numbers] if common > 1 else list(numbers)


def whole_row(row):
    return tuple(lowest(cleared(row)[0]))


def fraction_text(value):
    n, d = value
    return number_text(n) if d == 1 else f"{number_text(n)}/{number_text(d)}"


def number_text(number):
    # Python refuses to write a number of some thousand digits at once, and returned fractions may have as many.
    block = 10 ** 64
    left = abs(number)
    parts = []
    while left >= block:
        left, low = divmod(left, block)
        parts.append(str(low).zfill(64))
    parts.append(str(left))
    digits = "".join(parts[::-1])
    return f"-{digits}" if number < 0 else digits


def read_fraction(text):
    if not isinstance(text, str):
        return None
    upper, slash, lower = text.partition("/")
    n = read_number(upper)
    d = read_number(lower) if slash else 1
    if n is None or d is None or gcd(n, d) != 1:
        return None
    if slash and d < 2:
        return None
    return (n, d)


def read_number(text):
    """The number with this text, None for a text of another form."""
    digits = text.removeprefix("-")
    if not digits.isascii() or not digits.isdigit() or len(digits) > MOST_DIGITS:
        return None
    if digits.startswith("0") and text != "0":
        return None
    return int(text)
