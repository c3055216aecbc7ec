import unittest

from sweptfree import sums
from tests import helper
from tests.helper import SQUARE, Numbers, same_twice

A = ((0, 0), (2, 0), (0, 2))
B = SQUARE


def slow_sum(one, other):
    """The sum by all sums of corners."""
    return helper.slow_hull([(x + u, y + v) for x, y in one for u, v in other])


class SumsTest(unittest.TestCase):

    def test_told(self):
        self.assertEqual(sums.sum_of(A, B), ((0, 0), (3, 0), (3, 1), (1, 3), (0, 3)))
        self.assertEqual(sums.sum_of(B, A), ((0, 0), (3, 0), (3, 1), (1, 3), (0, 3)))
        self.assertEqual(sums.sum_of(B, ((-2, 0), (0, -2), (0, 0))), ((-2, 0), (0, -2), (1, -2), (1, 1), (-2, 1)))
        self.assertEqual(sums.sum_of(B, B), ((0, 0), (2, 0), (2, 2), (0, 2)))
        self.assertEqual(sums.sum_of(A, A), ((0, 0), (4, 0), (0, 4)))
        self.assertEqual(sums.sum_of(A, ((-2, -2), (0, -2), (-2, 0))), ((-2, -2), (2, -2), (-2, 2)))

    def test_as_the_second_opinion(self):
        numbers = Numbers(21)
        for _ in range(500):
            size = numbers.choice((1, 2, 3, 12, 10 ** 6))
            one, other = helper.some_piece(numbers, size, 12), helper.some_piece(numbers, size, 12)
            found = same_twice(self, sums.sum_of, one, other)
            self.assertEqual(found, slow_sum(one, other), (one, other))
            self.assertTrue(helper.is_right_piece(found))
            self.assertEqual(sums.sum_of(other, one), found)
            self.assertEqual(sums.sum_of(one, one), tuple((2 * x, 2 * y) for x, y in one))

    def test_opposite_directions(self):
        for one in (A, B, ((0, 0), (3, -1), (5, 5)), helper.round_piece(24)):
            about = helper.from_least(tuple((-x, -y) for x, y in one))
            self.assertEqual(sums.sum_of(one, about), slow_sum(one, about))

    def test_upright_edges_at_both_ends(self):
        for one in (((0, 0), (1, 0), (0, 9)), ((0, 0), (1, -9), (1, 9)), ((0, 0), (1, -1), (2, 5), (0, 1))):
            for other in (((0, 0), (9, 1), (0, 1)), ((0, 0), (9, -1), (9, 1)), ((0, 0), (1, -50), (1, 50), (0, 2))):
                self.assertEqual(sums.sum_of(one, other), slow_sum(one, other))

    def test_of_many_corners(self):
        one = helper.round_piece(24)
        other = tuple((10 ** 4 * y, -10 ** 4 * x) for x, y in one)
        other = helper.from_least(other)
        self.assertEqual(sums.sum_of(one, other), slow_sum(one, other))
        self.assertLessEqual(len(sums.sum_of(one, other)), 48)

    def test_swept_told(self):
        self.assertEqual(sums.swept(A, (3, 0)), ((0, 0), (5, 0), (3, 2), (0, 2)))
        self.assertEqual(sums.swept(A, (0, 0)), A)
        self.assertEqual(sums.swept(B, (1, 1)), ((0, 0), (1, 0), (2, 1), (2, 2), (1, 2), (0, 1)))
        self.assertEqual(sums.swept(A, (-1, 1)), ((-1, 1), (0, 0), (2, 0), (-1, 3)))
        self.assertEqual(sums.swept(B, (0, -5)), ((0, -5), (1, -5), (1, 1), (0, 1)))

    def test_swept_as_the_second_opinion(self):
        numbers = Numbers(22)
        for _ in range(200):
            piece = helper.some_piece(numbers, 5)
            by = (numbers.between(-6, 6), numbers.between(-6, 6))
            found = same_twice(self, sums.swept, piece, by)
            self.assertEqual(found, helper.slow_hull(piece + tuple((x + by[0], y + by[1]) for x, y in piece)))
