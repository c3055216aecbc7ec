"""What is a name, an integer, a fraction, a point of integers."""

from math import gcd

LETTERS = "abcdefghijklmnopqrstuvwxyz"
DIGITS = "0123456789"
LONGEST_WORD = 12


def is_name(value):
    """Return whether value, which may be anything, is a name."""
    if not isinstance(value, str) or not 1 <= len(value) <= LONGEST_WORD:
        return False
    return value[0] in LETTERS and all(sign in LETTERS or sign in DIGITS for sign in value)


def is_integer(value):
    """Return whether value, which may be anything, is an integer; True and False are none."""
    return isinstance(value, int) and not isinstance(value, bool)


def is_integer_pair(value):
    """Return whether value, which may be anything, is a pair of integers."""
    return isinstance(value, tuple) and len(value) == 2 and is_integer(value[0]) and is_integer(value[1])


def is_lowest(pair):
    """Return whether a pair of integers has the one form of a fraction."""
    return pair[1] >= 1 and gcd(pair[0], pair[1]) == 1


def is_fraction(value):
    """Return whether value, which may be anything, is a fraction."""
    return is_integer_pair(value) and is_lowest(value)


def is_point(value):
    """Return whether value, which may be anything, is a point of integers."""
    return is_integer_pair(value)
