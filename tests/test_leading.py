import unittest
from fractions import Fraction

from sweptfree import leading
from tests import helper
from tests.helper import ANYTHING, BOX, SQUARE, WEDGE, Numbers, as_fraction, as_pair, nested, same_twice

A = WEDGE
NOUGHT = ((0, 1), (0, 1))
LITTLE = Fraction(1, 10 ** 12)


def place_of(x, y):
    return (as_pair(Fraction(x)), as_pair(Fraction(y)))


def at_moment(piece, place, by, t):
    return tuple((x + as_fraction(place[0]) + t * by[0], y + as_fraction(place[1]) + t * by[1]) for x, y in piece)


def slow_moment(one, other, place, by, value):
    """Whether what has the form of a moment paper is one."""
    t = as_fraction(value[0])
    point = [as_fraction(n) for n in value[1]]
    laid = at_moment(one, place, by, t)
    return 0 <= t <= 1 and all(helper.place_in(piece, *point) == "inside" for piece in (laid, other))


def slow_led(one, other, place, by):
    """How the hull of both ends is to the other piece."""
    ends = [tuple(p) for t in (0, 1) for p in at_moment(one, place, by, t)]
    return helper.slow_body_relation([helper.slow_hull(ends)], [other])


class LeadingTest(unittest.TestCase):

    def check(self, one, other, place, by):
        word = same_twice(self, leading.led_relation, one, other, place, by)
        self.assertEqual(word, slow_led(one, other, place, by), (one, other, place, by))
        paper = same_twice(self, leading.moment_of, one, other, place, by)
        self.assertEqual(paper is not None, word == "meet", (one, other, place, by))
        if paper is not None:
            self.assertIs(type(paper), tuple)
            self.assertTrue(slow_moment(one, other, place, by, paper), (one, other, place, by, paper))
            self.assertIs(same_twice(self, leading.judge_moment, one, other, place, by, paper), True)
        return word

    def test_told(self):
        swept = ((0, 0), (5, 0), (3, 2), (0, 2))
        self.assertEqual(helper.slow_hull([p for t in (0, 1) for p in at_moment(A, NOUGHT, (3, 0), t)]), swept)
        for x, y, by, word in ((-2, 0, (3, 0), "meet"), (-2, 0, (0, 3), "touch"), (-3, 0, (1, 0), "touch"),
                               (-3, 0, (0, 9), "clear"), (-9, 0, (20, 0), "meet"), (-9, 1, (20, 0), "touch"),
                               (-9, 2, (20, 0), "clear"), (0, 0, (0, 0), "meet"), (1, 0, (0, 0), "touch"),
                               (2, 0, (0, 0), "clear"), (0, 0, (9, 9), "meet"), (9, 9, (-9, -9), "meet"),
                               (1, 0, (-1, 0), "meet"), (1, 0, (1, 0), "touch"), (-1, -3, (3, 6), "meet"),
                               (-3, -1, (0, 2), "clear"), (-2, -3, (0, 2), "clear"), (-2, -3, (0, 6), "touch")):
            self.assertEqual(self.check(A, SQUARE, place_of(x, y), by), word, (x, y, by))

    def test_at_the_ends_and_between(self):
        for x in (-LITTLE, 0, LITTLE):
            self.assertEqual(self.check(SQUARE, SQUARE, place_of(1 - x, 0), (5, 0)), "meet" if x > 0 else
                             "touch" if x == 0 else "clear")
            self.assertEqual(self.check(SQUARE, SQUARE, place_of(-6 + x, 0), (5, 0)), "meet" if x > 0 else
                             "touch" if x == 0 else "clear")
            self.assertEqual(self.check(SQUARE, SQUARE, place_of(-10, 1 - x), (20, 0)), "meet" if x > 0 else
                             "touch" if x == 0 else "clear")
            self.assertEqual(self.check(WEDGE, WEDGE, place_of(-4, 2 - x), (5, 0)), "meet" if x > 0 else
                             "touch" if x == 0 else "clear")
        self.assertEqual(self.check(SQUARE, SQUARE, place_of(-10, 10), (18, -18)), "meet")

    def test_small_steps(self):
        """Each edge of the sum is as short as can be, and so is the step: a led one leaves, or comes, soon."""
        small = ((0, 0), (1, 0), (0, 1))
        for by in ((1, 0), (-1, 0), (0, 1), (0, -1), (1, -1), (-1, 1), (1, 1), (-1, -1)):
            for x in range(-8, 9):
                for y in range(-8, 9):
                    self.check(small, small, place_of(Fraction(x, 4), Fraction(y, 4)), by)

    def test_as_the_second_opinion(self):
        numbers = Numbers(51)
        seen = {}
        for _ in range(400):
            size = numbers.choice((1, 2, 4, 10 ** 6))
            one, other = helper.some_piece(numbers, size), helper.some_piece(numbers, size)
            by = (numbers.between(-3 * size, 3 * size), numbers.choice((0, numbers.between(-3 * size, 3 * size))))
            p, q = numbers.choice(one), numbers.choice(other)
            t = numbers.choice((0, 1, Fraction(1, 2), Fraction(2, 7)))
            x, y = q[0] - p[0] - t * by[0], q[1] - p[1] - t * by[1]
            if numbers.below(2):
                x = x + Fraction(numbers.between(-9, 9), 4)
            word = self.check(one, other, place_of(x, y), by)
            seen[word] = seen.get(word, 0) + 1
        self.assertTrue(all(seen[word] > 30 for word in ("meet", "touch", "clear")), seen)

    def test_great_ones(self):
        below = 10 ** 39 + 7
        piece = helper.round_piece(24)
        for place, by in ((((-10 ** 40, below), (1, below)), (10 ** 6, -10 ** 6)), (((1, below), (-1, below)), (0, 0)),
                          (((10 ** 6, 1), (10 ** 6, 1)), (-10 ** 6, -10 ** 6))):
            self.check(piece, piece, place, by)


class JudgeTest(unittest.TestCase):

    PLACE, BY = place_of(-2, 0), (4, 0)

    def judged(self, value, right, place=None, by=None):
        found = same_twice(self, leading.judge_moment, BOX, SQUARE, place or self.PLACE, by or self.BY, value)
        self.assertIs(found, right, value)

    def test_points(self):
        half = place_of(Fraction(1, 2), Fraction(1, 2))
        for t, right in (((1, 2), True), ((1, 4), True), ((0, 1), False), ((1, 8), False), ((1, 1), False),
                         ((1, 10), False), ((5, 8), False), ((9, 16), True), ((3, 2), False), ((-1, 2), False)):
            self.judged((t, half), right)
        self.judged(((0, 1), half), True, place_of(0, 0))
        self.judged(((1, 1), half), True, place_of(-4, 0))
        self.judged(((-1, 4), half), False, place_of(1, 0))
        self.judged(((5, 4), half), False, place_of(-5, 0))
        self.judged(((1, 3), half), True, place_of(0, 0), (0, 0))
        for x, y in ((0, Fraction(1, 2)), (1, Fraction(1, 2)), (Fraction(1, 2), 0), (Fraction(1, 2), 1), (1, 1),
                     (Fraction(3, 2), Fraction(1, 2)), (Fraction(1, 2), Fraction(3, 2))):
            self.judged(((1, 2), place_of(x, y)), False)

    def test_form(self):
        half = ((1, 2), (1, 2))
        for value in ANYTHING + (nested(40), ((1, 2),), ((1, 2), half, 0), [(1, 2), half], ((1, 2), list(half)),
                                 ((2, 4), half), (1, half), (True, half), ((True, 2), half), ([1, 2], half),
                                 ((1, 2), (1, 2)), ((1, 2), ((1, 2),)), ((1, 2), half + half), (half, (1, 2)),
                                 ((1, 2), ((1, 2), (2, 4))), ((1, 0), half), (None, half), ((1, 2), None)):
            self.judged(value, False)
        self.judged(((1, 2), half), True)
