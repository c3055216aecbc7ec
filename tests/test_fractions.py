import unittest
from fractions import Fraction

from sweptfree import fractions
from tests.helper import ANYTHING, FRACTIONS, NO_FRACTIONS, Numbers, as_fraction, as_pair, nested, same_twice

GREAT = 10 ** 100 - 1
SAMPLES = (
    (0, 1), (1, 1), (-1, 1), (1, 2), (-1, 2), (2, 3), (-2, 3), (7, 4), (-7, 4), (10, 1), (-10, 1), (5, 6),
    (GREAT, 1), (-GREAT, 10 ** 99 + 7), (1, GREAT), (-1, GREAT), (GREAT, GREAT - 1), (1 - GREAT, GREAT),
)


class FractionsTest(unittest.TestCase):

    def is_just(self, value, fraction):
        """See that a value is this fraction, in its one form, of plain integers."""
        self.assertEqual(value, as_pair(fraction))
        self.assertEqual([type(value), type(value[0]), type(value[1])], [tuple, int, int])
        self.assertTrue(fractions.is_fraction(value))

    def test_is_fraction(self):
        for value in FRACTIONS:
            self.assertIs(fractions.is_fraction(value), True, value)
        for value in NO_FRACTIONS:
            self.assertIs(fractions.is_fraction(value), False, value)
        for value in ANYTHING + (nested(40), ValueError()):
            self.assertIn(same_twice(self, fractions.is_fraction, value), (True, False))

    def test_made(self):
        for a in list(range(-12, 13)) + [GREAT, -GREAT, 3 * GREAT]:
            for b in list(range(-12, 0)) + list(range(1, 13)) + [GREAT, -GREAT]:
                self.is_just(fractions.made(a, b), Fraction(a, b))
        self.assertEqual(fractions.made(0, -5), (0, 1))
        self.assertEqual(fractions.made(2, -4), (-1, 2))

    def test_whole(self):
        for n in (0, 5, -5, GREAT):
            self.assertEqual(fractions.whole(n), (n, 1))

    def pairs(self):
        numbers = Numbers(4)
        for x in SAMPLES:
            for y in SAMPLES:
                yield x, y
        for _ in range(300):
            yield tuple(as_pair(Fraction(numbers.between(-40, 40), numbers.between(1, 30))) for _ in range(2))

    def test_of_two(self):
        for x, y in self.pairs():
            one, other = as_fraction(x), as_fraction(y)
            self.is_just(fractions.plus(x, y), one + other)
            self.is_just(fractions.minus(x, y), one - other)
            self.is_just(fractions.times(x, y), one * other)
            self.is_just(fractions.middle(x, y), (one + other) / 2)
            self.assertIs(fractions.less(x, y), one < other)
            if other != 0:
                self.is_just(fractions.over(x, y), one / other)

    def test_of_one(self):
        for x in SAMPLES:
            one = as_fraction(x)
            self.assertEqual(fractions.sign_of(x), (one > 0) - (one < 0))
            self.assertEqual(fractions.floor_of(x), one.__floor__())
            self.assertIs(type(fractions.floor_of(x)), int)
            self.assertIs(type(fractions.sign_of(x)), int)

    def test_floors_below_nought(self):
        for x, floor in (((-1, 2), -1), ((-7, 4), -2), ((-2, 1), -2), ((7, 4), 1), ((0, 1), 0), ((-1, GREAT), -1)):
            self.assertEqual(fractions.floor_of(x), floor)

    def test_same_twice(self):
        for name in ("plus", "minus", "times", "over", "less", "middle"):
            same_twice(self, getattr(fractions, name), (-7, 4), (5, 6))
        for name in ("sign_of", "floor_of"):
            same_twice(self, getattr(fractions, name), (-7, 4))
        same_twice(self, fractions.made, 6, -4)
