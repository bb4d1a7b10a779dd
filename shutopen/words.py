"""Whether a value, of any kind, is one of the plain words of the package: a name, a number, a fraction, a row."""

from math import gcd

LETTERS = "abcdefghijklmnopqrstuvwxyz"


def is_name(value):
    if not isinstance(value, str):
        return False
    return 1 <= len(value) <= 6 and all([letter in LETTERS for letter in value])


def is_number(value):
    # True and False are integers for Python, but no numbers here.
    return isinstance(value, int) and not isinstance(value, bool)


def is_fraction(value):
    if not isinstance(value, tuple) or len(value) != 2:
        return False
    n, d = value
    return is_number(n) and is_number(d) and d >= 1 and gcd(n, d) == 1


def is_row(value, many):
    if not isinstance(value, tuple) or len(value) != many:
        return False
    return all([is_fraction(item) for item in value])


def is_mixture(value, many):
    return is_row(value, many) and all([n >= 0 for n, _ in value])


def is_listed(value, names):
    """Whether a value, of any kind, is one of some names."""
    return isinstance(value, str) and value in names
