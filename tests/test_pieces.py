import unittest
from fractions import Fraction

from sweptfree import pieces
from sweptfree.errors import BadShape, Flat
from tests import helper
from tests.helper import ANYTHING, NO_POINTS, POINTS, SQUARE, Numbers, as_pair, nested, outcome, same_twice

TRIANGLE = ((0, 0), (2, 0), (0, 2))
WIDE = ((-3, 0), (0, -2), (4, 1), (4, 2), (1, 5), (-2, 4))
MILLION = 10 ** 6


def whole_point(p):
    return ((p[0], 1), (p[1], 1))


class SidesTest(unittest.TestCase):

    def test_side_of(self):
        numbers = Numbers(5)
        for _ in range(600):
            a, b, p = [(Fraction(numbers.between(-6, 6), numbers.between(1, 4)),
                        Fraction(numbers.between(-6, 6), numbers.between(1, 4))) for _ in range(3)]
            if a != b:
                turn = helper.turn(a, b, p)
                side = pieces.side_of(*[(as_pair(x), as_pair(y)) for x, y in (a, b, p)])
                self.assertEqual(side, (turn > 0) - (turn < 0))
                self.assertIs(type(side), int)

    def test_told(self):
        a, b = whole_point((0, 0)), whole_point((4, 2))
        for p, side in ((((2, 1), (1, 1)), 0), (((8, 1), (4, 1)), 0), (((-2, 1), (-1, 1)), 0), (((2, 1), (3, 2)), 1),
                        (((2, 1), (1, 2)), -1), (((2, 1), (10 ** 12 + 1, 10 ** 12)), 1),
                        (((2, 1), (10 ** 12 - 1, 10 ** 12)), -1)):
            self.assertEqual(pieces.side_of(a, b, p), side)
            self.assertEqual(pieces.side_of(b, a, p), -side)
        same_twice(self, pieces.side_of, a, b, ((2, 1), (3, 2)))

    def test_is_point(self):
        for value in POINTS:
            self.assertIs(pieces.is_point(value), True)
        for value in NO_POINTS + (nested(40),):
            self.assertIs(pieces.is_point(value), False)


class PieceCheckTest(unittest.TestCase):

    def check(self, value, path=None, word=None):
        found = same_twice(self, pieces.check_piece, value)
        expected = None if word is None else ("BadShape", {"path": path, "word": word})
        self.assertEqual(found, expected, value)
        inside = same_twice(self, pieces.check_shape, (SQUARE, TRIANGLE, value, None))
        if word is None:
            self.assertEqual(inside, ("BadShape", {"path": (3,), "word": "form"}))
        else:
            self.assertEqual(inside, ("BadShape", {"path": (2,) + path, "word": word}))

    def test_right_ones(self):
        for value in (SQUARE, TRIANGLE, WIDE, ((-MILLION, -MILLION), (MILLION, -MILLION), (MILLION, MILLION)),
                      helper.round_piece(24), ((0, 0), (1, 5), (0, 1))):
            self.check(value)
        self.assertIsNone(pieces.check_shape((SQUARE,)))
        self.assertIsNone(pieces.check_shape((SQUARE, SQUARE, WIDE)))

    def test_form(self):
        for value in (None, True, 3, "abc", (), (1,), ((0, 0), (1, 0)), [(0, 0), (1, 0), (1, 1)], {0: (0, 0)},
                      nested(40), BadShape((), "form")):
            self.check(value, (), "form")
        self.check((1, 2, 3), (0,), "form")
        self.check(((0, 0), (1, 0), [1, 1]), (2,), "form")
        self.check(((0, 0), (1, True), (None, 1)), (1,), "form")
        self.check(((0, 0), (1, 0), (1, 1, 1), 7), (2,), "form")
        self.check(((0, 0), (1, 0), ((1, 1), (1, 1))), (2,), "form")
        self.check(((0, 0), (0, 0), (0, 0), 7), (3,), "form")

    def test_turn(self):
        self.check(((0, 0), (0, 1), (1, 1), (1, 0)), (0,), "turn")
        self.check(((0, 0), (1, 0), (2, 0), (0, 2)), (0,), "turn")
        self.check(((0, 0), (2, 0), (1, 1), (0, 2)), (1,), "turn")
        self.check(((0, 0), (2, 0), (0, 2), (0, 1)), (2,), "turn")
        self.check(((0, 0), (0, 0), (1, 0)), (0,), "turn")
        self.check(((0, 0), (1, 0), (1, 0), (0, 1)), (0,), "turn")
        self.check(((0, 0), (2, 0), (2, 2), (2, 2), (0, 2)), (1,), "turn")
        self.check(((0, 0), (4, 0), (4, 4), (3, 3), (0, 4)), (2,), "turn")
        self.check(((0, 0), (1, 0), (1, 1), (0, 1), (0, 0)), (0,), "turn")
        self.check(SQUARE + SQUARE, (0,), "turn")
        self.check(((0, 0), (3, 1), (1, 3), (2, 0), (3, 3)), (0,), "turn")
        self.check(((5, 5), (5, 5), (5, 5)), (0,), "turn")

    def test_first(self):
        self.check(((1, 0), (1, 1), (0, 1), (0, 0)), (), "first")
        self.check(((2, 0), (0, 2), (0, 0)), (), "first")
        self.check(((0, 1), (0, 0), (1, 0)), (), "first")
        self.check(((0, -2),) + WIDE[2:] + WIDE[:1], (), "first")

    def test_as_the_second_opinion(self):
        for many, size in ((3, 2), (4, 1), (4, 2)):
            rights = 0
            points = [(x, y) for x in range(size + 1) for y in range(size + 1)]
            rows = [()]
            for _ in range(many):
                rows = [row + (p,) for row in rows for p in points]
            for row in rows:
                fault = outcome(pieces.check_piece, row)
                self.assertEqual(fault is None, helper.is_right_piece(row), row)
                rights += fault is None
                if fault is not None and fault[1]["word"] == "turn":
                    first = [k for k in range(many) if any(
                        helper.turn(row[k], row[(k + 1) % many], row[n]) <= 0
                        for n in range(many) if n not in (k, (k + 1) % many))][0]
                    self.assertEqual(fault[1]["path"], (first,))
            self.assertGreater(rights, 0)

    def test_shapes(self):
        for value in (None, (), [], [SQUARE], {0: SQUARE}, True, "ab", 0):
            self.assertEqual(outcome(pieces.check_shape, value), ("BadShape", {"path": (), "word": "form"}))
        self.assertEqual(outcome(pieces.check_shape, SQUARE), ("BadShape", {"path": (0,), "word": "form"}))
        self.assertEqual(outcome(pieces.check_shape, (((0, 0), (1, 0), 7),)),
                         ("BadShape", {"path": (0, 2), "word": "form"}))

    def test_anything(self):
        for value in ANYTHING:
            for check in (pieces.check_piece, pieces.check_shape):
                found = same_twice(self, check, value)
                self.assertTrue(found is None or found[0] == "BadShape")


class WhereTest(unittest.TestCase):

    def test_grid(self):
        for piece in (SQUARE, TRIANGLE, WIDE, ((0, 0), (1, 5), (0, 1))):
            for below in (1, 2, 3):
                for x in range(-4 * below, 6 * below):
                    for y in range(-3 * below, 6 * below):
                        point = (Fraction(x, below), Fraction(y, below))
                        self.assertEqual(pieces.where(piece, (as_pair(point[0]), as_pair(point[1]))),
                                         helper.place_in(piece, *point))

    def test_told(self):
        for point, answer in ((((0, 1), (0, 1)), "edge"), (((2, 1), (0, 1)), "edge"), (((1, 1), (1, 1)), "edge"),
                              (((3, 1), (0, 1)), "outside"), (((-1, 1), (0, 1)), "outside"),
                              (((3, 1), (-1, 1)), "outside"), (((1, 2), (1, 2)), "inside"),
                              (((1, 10 ** 40), (1, 10 ** 40)), "inside"), (((-1, 10 ** 40), (1, 1)), "outside"),
                              (((1, 1), (10 ** 40 + 1, 10 ** 40)), "outside")):
            self.assertEqual(same_twice(self, pieces.where, TRIANGLE, point), answer)

    def test_areas(self):
        self.assertEqual(pieces.area_twice(SQUARE), 2)
        self.assertEqual(pieces.area_twice(TRIANGLE), 4)
        great = ((-MILLION, -MILLION), (MILLION, -MILLION), (MILLION, MILLION))
        self.assertEqual(pieces.area_twice(great), 4 * MILLION ** 2)
        for k in range(20):
            piece = helper.some_piece(Numbers(k), 30)
            self.assertEqual(same_twice(self, pieces.area_twice, piece), helper.area_of(piece))


class HullTest(unittest.TestCase):

    def test_flat(self):
        for points in ([], [(0, 0)], [(0, 0), (1, 1)], [(1, 1)] * 5, [(0, 0), (1, 1), (2, 2)], [(3, 0), (1, 0), (2, 0)],
                       [(0, 3), (0, 3), (0, 1)], [(2 * k, -3 * k) for k in range(200)], [(0, 0), (1, 1), (0, 0)]):
            with self.assertRaises(Flat):
                pieces.hull(points)
            same_twice(self, pieces.hull, points)

    def test_told(self):
        self.assertEqual(pieces.hull([(1, 1), (0, 1), (1, 0), (0, 0)]), SQUARE)
        self.assertEqual(pieces.hull(((1, 1), (0, 1), (1, 0), (0, 0), (0, 0))), SQUARE)
        self.assertEqual(pieces.hull([(0, 0), (1, 0), (2, 0), (1, 1), (0, 1), (0, 2)]), TRIANGLE)
        grid = [(x, y) for x in range(14) for y in range(14)]
        self.assertEqual(pieces.hull(grid), ((0, 0), (13, 0), (13, 13), (0, 13)))
        self.assertEqual(pieces.hull(list(helper.round_piece(24))[::-1]), helper.round_piece(24))

    def test_of_many(self):
        numbers = Numbers(6)
        for _ in range(300):
            size = numbers.choice((1, 2, 3, 10, MILLION))
            many = numbers.between(1, 12)
            points = [(numbers.between(-size, size), numbers.between(-size, size)) for _ in range(many)]
            told = helper.slow_hull(points)
            found = outcome(pieces.hull, points)
            self.assertEqual(found, ("Flat", {}) if told is None else told)
            if told is not None:
                self.assertTrue(helper.is_right_piece(found))
                self.assertTrue(all(helper.place_in(found, x, y) != "outside" for x, y in points))

    def test_two_hundred(self):
        numbers = Numbers(7)
        points = [(numbers.between(-MILLION, MILLION), numbers.between(-MILLION, MILLION)) for _ in range(200)]
        self.assertEqual(same_twice(self, pieces.hull, points), helper.slow_hull(points))


class MovesTest(unittest.TestCase):

    def test_turned_about_and_moved(self):
        self.assertEqual(pieces.turned_about(SQUARE), ((-1, -1), (0, -1), (0, 0), (-1, 0)))
        self.assertEqual(pieces.turned_about(TRIANGLE), ((-2, 0), (0, -2), (0, 0)))
        self.assertEqual(pieces.moved(TRIANGLE, (3, -4)), ((3, -4), (5, -4), (3, -2)))
        for k in range(60):
            piece = helper.some_piece(Numbers(k), 8)
            turned = same_twice(self, pieces.turned_about, piece)
            self.assertTrue(helper.is_right_piece(turned))
            self.assertEqual(sorted(turned), sorted((-x, -y) for x, y in piece))
            self.assertEqual(pieces.turned_about(turned), piece)
            moved = same_twice(self, pieces.moved, piece, (k - 5, 3 - k))
            self.assertTrue(helper.is_right_piece(moved))
            self.assertEqual(pieces.moved(moved, (5 - k, k - 3)), piece)

    def test_are_apart(self):
        for other, apart in ((pieces.moved(SQUARE, (1, 0)), True), (pieces.moved(SQUARE, (1, 1)), True),
                             (SQUARE, False), (pieces.moved(SQUARE, (0, 2)), True), (TRIANGLE, False),
                             (((1, 1), (2, 0), (2, 2)), True),
                             (((-9, -9), (9, -9), (9, 9)), False), (((-1, 0), (0, -1), (0, 1)), True)):
            self.assertIs(pieces.are_apart(SQUARE, other), apart)
            self.assertIs(pieces.are_apart(other, SQUARE), apart)

    def test_are_apart_as_the_second_opinion(self):
        numbers = Numbers(8)
        seen = []
        for _ in range(1500):
            one, other = helper.some_piece(numbers, 4, 6), helper.some_piece(numbers, 4, 6)
            other = pieces.moved(other, (numbers.between(-5, 5), numbers.between(-5, 5)))
            apart = helper.common_area(one, other) == 0
            self.assertIs(pieces.are_apart(one, other), apart)
            seen.append(apart)
        self.assertTrue(300 < sum(seen) < 1200)
        same_twice(self, pieces.are_apart, SQUARE, TRIANGLE)

    def test_apart_by_little(self):
        near = ((-MILLION, MILLION - 1), (MILLION, MILLION), (MILLION - 1, MILLION))
        self.assertEqual(helper.area_of(near) > 0, True)
        below = ((-MILLION, -MILLION), (MILLION, -MILLION), (MILLION, MILLION))
        self.assertIs(pieces.are_apart(near, below), helper.common_area(near, below) == 0)
