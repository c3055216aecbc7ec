"""What forms, and tuples like them, have in common: their values at standings, their one shape, their ranks.

Each is a tuple of integers: c0, and one number for each slider behind it.
"""

from math import gcd, lcm

from sweptfree.fractions import integer_sign, made
from sweptfree.words import is_integer


def value_of(form, standing):
    """Return the value of a form at a standing, a fraction."""
    above, below = value_parts(form, standing)
    return made(above, below)


def sign_at(form, standing):
    """Return the sign of the value of a form at a standing."""
    return integer_sign(value_parts(form, standing)[0])


def value_parts(form, standing):
    """Return the value as two integers, the second one above 0, perhaps with a common divisor."""
    above, below = form[0], 1
    for number, (a, b) in zip(form[1:], standing):
        above, below = above * b + number * a * below, below * b
    return above, below


def in_parts(standing):
    """Return a standing in integers: how many parts make 1, and how many of these each fraction is."""
    many = 1
    for _, below in standing:
        many = lcm(many, below)
    return (many,) + tuple([above * (many // below) for above, below in standing])


def value_in_parts(form, point):
    """Return the value of a form at a standing that is told in parts, itself in parts."""
    return sum([n * x for n, x in zip(form, point)])


def lowered(numbers):
    """Return a tuple of integers divided by their greatest common divisor, if they are not all 0."""
    divisor = gcd_of(numbers)
    return tuple(n // divisor for n in numbers) if divisor > 1 else tuple(numbers)


def gcd_of(numbers):
    """Return the greatest common divisor of integers, 0 if they are all 0."""
    divisor = 0
    for n in numbers:
        divisor = gcd(divisor, n)
        if divisor == 1:
            return 1
    return divisor


def is_constant(numbers):
    """Return whether no number behind the first one is other than 0."""
    return not any(numbers[1:])


def leading_sign(numbers):
    """Return the sign of the first number behind c0 that is not 0, or 0 if all are 0."""
    for n in numbers[1:]:
        if n != 0:
            return 1 if n > 0 else -1
    return 0


def is_form(value, sliders):
    """Return whether value, which may be anything, is a form of so many sliders."""
    if not isinstance(value, tuple) or len(value) != sliders + 1 or not all(is_integer(n) for n in value):
        return False
    return gcd_of(value) == 1 and leading_sign(value) == 1


def limit_pairs(limits):
    """Return the list of the pairs of forms that tell q[k] - low and q[k] - high, one for each slider k."""
    pairs = []
    for k, (low, high) in enumerate(limits):
        behind = (0,) * k + (1,) + (0,) * (len(limits) - k - 1)
        pairs.append(((-low,) + behind, (-high,) + behind))
    return pairs


def is_in_limits(limits, standing):
    """Return whether each slider is from its low to its high."""
    for (low, high), (a, b) in zip(limits, standing):
        if a < low * b or a > high * b:
            return False
    return True


def rank(forms):
    """Return the greatest number of these forms whose parts without c0 are independent."""
    rows = [form[1:] for form in forms]
    found = 0
    for k in range(len(rows[0]) if rows else 0):
        heads = [row for row in rows if row[k] != 0]
        if heads:
            found += 1
            rows = [freed(row, heads[0], k) for row in rows]
    return found


def freed(row, head, k):
    """Return what is left of a row, in lowest form, when as much of a head is taken away that the number k is 0."""
    return lowered([head[k] * n - row[k] * m for n, m in zip(row, head)])
