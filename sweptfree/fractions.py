"""Exact fractions: pairs (a, b) in lowest form, b at least 1."""

from math import gcd

from sweptfree.words import is_integer_pair, is_lowest


def is_fraction(value):
    """Return whether value, which may be anything, is a fraction."""
    return is_integer_pair(value) and is_lowest(value)


def is_fraction_pair(value):
    """Return whether value, which may be anything, is a point of fractions."""
    return isinstance(value, tuple) and len(value) == 2 and is_fraction(value[0]) and is_fraction(value[1])


def made(a, b):
    """Return the fraction a by b of two integers, b other than 0."""
    divisor = gcd(a, b)
    if b < 0:
        divisor = -divisor
    return (a // divisor, b // divisor)


def whole(n):
    """Return an integer as a fraction."""
    return (n, 1)


def plus(x, y):
    """Return the sum."""
    return made(x[0] * y[1] + y[0] * x[1], x[1] * y[1])


def minus(x, y):
    """Return the difference."""
    return made(x[0] * y[1] - y[0] * x[1], x[1] * y[1])


def times(x, y):
    """Return the product."""
    return made(x[0] * y[0], x[1] * y[1])


def over(x, y):
    """Return the quotient, y not being nought."""
    return made(x[0] * y[1], x[1] * y[0])


def less(x, y):
    """Return whether x is less than y."""
    return x[0] * y[1] < y[0] * x[1]


def sign_of(x):
    """Return -1, 0 or 1."""
    return integer_sign(x[0])


def integer_sign(n):
    """Return the sign of an integer."""
    if n == 0:
        return 0
    return 1 if n > 0 else -1


def middle(x, y):
    """Return half of the sum."""
    return made(x[0] * y[1] + y[0] * x[1], 2 * x[1] * y[1])


def floor_of(x):
    """Return the greatest integer that is not greater than x."""
    return x[0] // x[1]
