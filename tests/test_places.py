import unittest
from fractions import Fraction

from sweptfree import places
from tests import helper
from tests.helper import D_SCENE, R_MODES, R_SCENE, Y_SCENE, Numbers, as_pair, replaced, same_twice

Q = ((3, 2), (1, 1), (-1, 3))
ARM, HAND, CART, BOX, ROD, WALLS = (0, 0), (0, 1), (0, 2), (1, 0), (1, 1), (2, 0)


def in_pairs(place):
    return tuple(as_pair(Fraction(n)) for n in place)


class PlacesTest(unittest.TestCase):

    def test_told(self):
        self.assertEqual(places.place_of(D_SCENE, 0, ((7, 2),)), ((7, 2), (0, 1)))
        self.assertEqual(places.place_of(Y_SCENE, 0, ((3, 1), (4, 1))), ((3, 1), (4, 1)))
        self.assertEqual(places.place_of(R_SCENE, 0, Q), ((3, 2), (10, 1)))
        self.assertEqual(places.place_of(R_SCENE, 1, Q), ((5, 2), (8, 1)))
        self.assertEqual(places.place_of(R_SCENE, 2, Q), ((7, 3), (-3, 1)))
        self.assertEqual(places.place_of(R_SCENE, 1, ((10 ** 6, 1), (-7, 2), (5, 1))), ((10 ** 6 + 1, 1), (25, 2)))

    def test_marks(self):
        all_marks = [ARM, HAND, CART, BOX, ROD, WALLS]
        for mode in R_MODES:
            self.assertEqual(same_twice(self, places.marks_of, R_SCENE, mode), all_marks)
        self.assertEqual(places.marks_of(Y_SCENE, ((), (0,))), [ARM, WALLS])
        self.assertEqual(places.marks_of(replaced(Y_SCENE, (2,), ()), ((), (0,))), [ARM, WALLS])

    def test_laid_out(self):
        found = places.laid_out(Y_SCENE, ((), (0,)), ((1, 2), (-3, 1)))
        self.assertEqual(found, [
            (ARM, ((((1, 2), (-3, 1)), ((5, 2), (-3, 1)), ((5, 2), (-1, 1)), ((1, 2), (-1, 1))),)),
            (WALLS, ((((4, 1), (0, 1)), ((6, 1), (0, 1)), ((6, 1), (4, 1)), ((4, 1), (4, 1))),))])
        bare = replaced(Y_SCENE, (2,), ())
        self.assertEqual(places.laid_out(bare, ((), (0,)), ((1, 2), (-3, 1)))[1], (WALLS, ()))
        held = dict(places.laid_out(R_SCENE, R_MODES[4], Q))
        self.assertEqual(held[BOX][0][0], ((5, 2), (7, 1)))
        self.assertEqual([piece[0] for piece in held[ROD]], [((13, 3), (0, 1)), ((16, 3), (2, 1))])
        lies = dict(places.laid_out(R_SCENE, R_MODES[1], Q))
        self.assertEqual(lies[BOX][0][0], ((11, 1), (3, 1)))
        self.assertEqual(lies[ROD][0][0], ((14, 1), (0, 1)))
        self.assertEqual([len(lies[mark]) for mark in (ARM, HAND, CART, WALLS)], [2, 2, 2, 2])
        self.assertEqual([len(piece) for piece in lies[ARM]], [3, 4])

    def test_as_the_second_opinion(self):
        numbers = Numbers(71)
        rows = [(R_SCENE, mode) for mode in R_MODES]
        for _ in range(60):
            scene = helper.some_scene(numbers)
            rows.append((scene, helper.some_mode(numbers, scene)))
        for scene, mode in rows:
            standing = helper.some_standing(numbers, scene)
            q = helper.numbers_of(standing)
            for m in range(len(scene[1])):
                found = same_twice(self, places.place_of, scene, m, standing)
                self.assertEqual(found, in_pairs(helper.slow_place(scene, mode, (0, m), q)))
            expected = [
                (mark, tuple(tuple(in_pairs(corner) for corner in piece) for piece in helper.laid(
                    helper.slow_shape(scene, mode, mark), helper.slow_place(scene, mode, mark, q))))
                for mark in helper.slow_marks(scene)]
            self.assertEqual(same_twice(self, places.laid_out, scene, mode, standing), expected)
            self.assertEqual(same_twice(self, places.looked_at, scene, mode), helper.slow_looked_at(scene, mode))
            self.assertEqual(places.marks_of(scene, mode), helper.slow_marks(scene))


class LookedAtTest(unittest.TestCase):

    def looked(self, mode, pairs, scene=R_SCENE):
        self.assertEqual(same_twice(self, places.looked_at, scene, mode), pairs)

    def test_what_lies(self):
        pairs = [(ARM, CART), (ARM, BOX), (ARM, ROD), (HAND, CART), (HAND, BOX), (HAND, ROD), (HAND, WALLS),
                 (CART, BOX), (CART, ROD), (CART, WALLS)]
        self.looked(R_MODES[0], pairs)
        self.looked(R_MODES[1], pairs)

    def test_what_is_held(self):
        self.looked(R_MODES[2], [(ARM, CART), (ARM, BOX), (ARM, ROD), (HAND, CART), (HAND, ROD), (HAND, WALLS),
                                 (CART, BOX), (CART, ROD), (CART, WALLS), (BOX, ROD), (BOX, WALLS)])
        self.looked(R_MODES[3], [(ARM, CART), (ARM, BOX), (ARM, ROD), (HAND, CART), (HAND, BOX), (HAND, WALLS),
                                 (CART, BOX), (CART, ROD), (CART, WALLS), (BOX, ROD), (ROD, WALLS)])
        self.looked(R_MODES[4], [(ARM, CART), (ARM, BOX), (ARM, ROD), (HAND, CART), (HAND, ROD), (HAND, WALLS),
                                 (CART, BOX), (CART, WALLS), (BOX, ROD), (BOX, WALLS), (ROD, WALLS)])

    def test_walls_that_are_none(self):
        bare = replaced(Y_SCENE, (2,), ())
        self.looked(((), (0,)), [(ARM, WALLS)], bare)
        self.looked(((), (0,)), [], replaced(bare, (4,), ((0, None),)))

    def test_joined(self):
        for joined, gone in (((), []), (((0, 2), (1, None)), [(ARM, CART), (HAND, WALLS)]),
                             (((1, 2), (2, None), (0, None)), [(HAND, CART), (CART, WALLS), (ARM, WALLS)])):
            scene = replaced(R_SCENE, (4,), joined)
            for mode in R_MODES:
                free = places.looked_at(replaced(R_SCENE, (4,), ()), mode)
                self.looked(mode, [pair for pair in free if pair not in gone], scene)
