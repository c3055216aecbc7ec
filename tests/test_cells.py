import unittest
from itertools import product

from sweptfree import cells
from sweptfree.errors import TooGreat
from tests import helper
from tests.helper import E_FRAME, Numbers, frame_with, numbers_of, same_twice, upright_frame

CORNER = (-1, -1, -1, 0, 0)
LINE = (-1, -1, 0, 1, 1)
LOW, HIGH = (-1, -1, -1, 1, 1), (-1, -1, 1, 1, 1)
E_CELLS = [
    (-1, -1, -1, 0, 0), (-1, -1, -1, 0, 1), (-1, -1, -1, 1, 0), LOW, LINE, HIGH, (-1, 0, 0, 0, 1), (-1, 0, 1, 1, 1),
    (0, -1, 0, 1, 0), (0, -1, 1, 1, 1), (0, 0, 1, 1, 1),
]


def alternating_sum(frame, rows):
    return sum((-1) ** cells.dimension(frame, row) for row in rows)


def slanted(sliders, many):
    """A frame of so many forms, all but the limit forms with all numbers behind c0 other than 0, 0 somewhere within."""
    numbers = Numbers(sliders)
    forms = {}
    while len(forms) < many - 2 * sliders:
        parts = [numbers.choice((-3, -2, -1, 1, 2, 3)) * numbers.between(1, 9) for _ in range(sliders)]
        point = [numbers.between(20, 80) for _ in range(sliders)]
        forms[helper.some_shape_of((-sum(a * x for a, x in zip(parts, point)),) + tuple(parts))] = True
    return frame_with(((0, 100),) * sliders, forms)


class PointsTest(unittest.TestCase):

    def check(self, frame, signs, is_cell):
        found = same_twice(self, cells.point_in, frame, signs)
        self.assertEqual(found is not None, is_cell, (frame, signs))
        if found is not None:
            self.assertEqual((type(found), len(found)), (tuple, len(frame[0])))
            q = numbers_of(found)
            self.assertEqual(helper.slow_signs(frame, q), signs)
            self.assertTrue(all(low <= x <= high for x, (low, high) in zip(q, frame[0])))
            self.assertEqual(tuple(helper.as_pair(x) for x in q), found)

    def test_all_rows_of_the_square(self):
        for signs in product((-1, 0, 1), repeat=5):
            self.check(E_FRAME, signs, signs in E_CELLS)

    def test_all_rows_of_small_frames(self):
        numbers = Numbers(131)
        for _ in range(14):
            frame = helper.some_frame(numbers, (4, 3, 1))
            found = helper.slow_cells(frame)
            rows = list(product((-1, 0, 1), repeat=len(frame[1])))
            for _ in range(300):
                signs = numbers.choice(rows)
                self.check(frame, signs, signs in found)
            for signs in found:
                self.check(frame, signs, True)

    def test_great_numbers(self):
        far = 10 ** 19
        frame = frame_with(((-far, far), (1 - far, far)), [(far - 1, far, -far + 3), (1 - 2 * far, far - 7, 2)])
        for signs in cells.all_cells(frame):
            self.check(frame, signs, True)

    def test_forms_through_corners_and_beside_the_limits(self):
        frame = frame_with(((0, 2), (0, 2)), [(0, 1, 1), (0, 1, -1), (1, 1, 1), (-9, 0, 1), (-4, 1, 1), (-2, 1, 1)])
        found = helper.slow_cells(frame)
        self.assertEqual(cells.all_cells(frame), found)
        for signs in found:
            self.check(frame, signs, True)


class DimensionTest(unittest.TestCase):

    def test_told(self):
        for signs, dimension in zip(E_CELLS, (0, 1, 1, 2, 1, 2, 0, 1, 0, 1, 0)):
            self.assertEqual(same_twice(self, cells.dimension, E_FRAME, signs), dimension)

    def test_as_the_second_opinion(self):
        numbers = Numbers(132)
        for _ in range(30):
            frame = helper.some_frame(numbers)
            for signs in cells.all_cells(frame):
                self.assertEqual(cells.dimension(frame, signs), helper.slow_cell_dimension(frame, signs))

    def test_of_a_frame_that_is_too_great(self):
        frame = upright_frame(3, 40)
        corner = tuple(helper.slow_signs(frame, (0, 0, 0)))
        self.assertEqual(cells.dimension(frame, corner), 0)


class UnderliesTest(unittest.TestCase):

    def test_told(self):
        for one, other, does in ((CORNER, LOW, True), (LOW, CORNER, False), (LINE, LOW, True), (LINE, HIGH, True),
                                 (LOW, HIGH, False), (LOW, LOW, True), (CORNER, HIGH, False), (CORNER, LINE, False),
                                 ((0,) * 5, LOW, True), (LOW, (0,) * 5, False), ((1, 0), (-1, 0), False), ((), (), True),
                                 ((0, 1), (1, 1), True), ((-1, 0), (-1, -1), True), ((1, 0), (0, 0), False)):
            self.assertIs(same_twice(self, cells.underlies, one, other), does)
        for one in product((-1, 0, 1), repeat=3):
            for other in product((-1, 0, 1), repeat=3):
                self.assertIs(cells.underlies(one, other), helper.slow_underlies(one, other))


class AllCellsTest(unittest.TestCase):

    def check(self, frame):
        found = same_twice(self, cells.all_cells, frame)
        self.assertIs(type(found), list)
        self.assertEqual(found, sorted(set(found)))
        self.assertEqual(alternating_sum(frame, found), 1)
        return found

    def test_told(self):
        self.assertEqual(self.check(E_FRAME), E_CELLS)
        self.assertEqual(self.check(frame_with(((0, 6),), [])), [(-1, 0), (-1, 1), (0, 1)])
        self.assertEqual(self.check(frame_with(((0, 6),), [(-3, 1), (7, 1), (-13, 2)])), [
            (-1, -1, -1, 0, 1), (-1, -1, -1, 1, 1), (-1, -1, 0, 1, 1), (-1, -1, 1, 1, 1), (-1, 0, 1, 1, 1)])
        for sliders in (1, 2, 3):
            self.assertEqual(len(self.check(frame_with(((-1, 1),) * sliders, []))), 3 ** sliders)

    def test_as_found_another_way(self):
        numbers = Numbers(133)
        for _ in range(60):
            frame = helper.some_frame(numbers, (7, 5, 2))
            self.assertEqual(self.check(frame), helper.slow_cells(frame), frame)

    def test_many_forms_through_one_point(self):
        forms = [(-2 * (a + b), a, b) if a else (-2, 0, 1) for a, b in ((1, 1), (1, -1), (1, 2), (2, 1), (1, 0), (0, 1))]
        frame = frame_with(((0, 4), (0, 4)), forms)
        self.assertEqual(self.check(frame), helper.slow_cells(frame))
        forms = [(0, 1, 1, 0), (0, 1, 0, 1), (0, 0, 1, 1), (0, 1, 1, 1)]
        frame = frame_with(((-1, 1),) * 3, forms)
        self.assertEqual(len(self.check(frame)), len(helper.slow_cells(frame)))

    def test_sum_of_great_frames_in_good_time(self):
        self.assertEqual(len(self.check(upright_frame(1, 60))), 119)
        self.assertEqual(len(self.check(upright_frame(2, 40))), 39 * 39)
        self.assertEqual(len(self.check(upright_frame(3, 24))), 15 ** 3)
        self.assertGreater(len(self.check(slanted(2, 40))), 500)
        self.assertGreater(len(self.check(slanted(3, 10))), 60)
        numbers = Numbers(134)
        forms = set()
        while len(forms) < 36:
            forms.add(helper.some_form(numbers, 2, 10 ** 19))
        far = 2 * 10 ** 19
        self.assertGreater(len(self.check(frame_with(((-far, far), (-far, far)), sorted(forms)))), 40)


class TooGreatTest(unittest.TestCase):

    def test_just_not_and_just(self):
        for frame, great in ((upright_frame(1, 60), False), (upright_frame(1, 61), True), (upright_frame(2, 40), False),
                             (upright_frame(2, 41), True), (upright_frame(3, 24), False), (upright_frame(3, 25), True),
                             (slanted(2, 40), False), (slanted(2, 41), True), (slanted(3, 10), False),
                             (slanted(3, 11), True), (with_one_slanted(9), False), (with_one_slanted(10), True),
                             (with_one_slanted(23), True), (upright_frame(3, 11), False)):
            signs = helper.slow_signs(frame, (0,) * len(frame[0]))
            for function, args in ((cells.all_cells, ()), (cells.faces, (signs,)), (cells.cofaces, (signs,))):
                if great:
                    with self.assertRaises(TooGreat):
                        function(frame, *args)
                else:
                    self.assertIs(type(function(frame, *args)), list)


def with_one_slanted(upright):
    frame = upright_frame(3, upright)
    return frame_with(frame[0], frame[1] + ((-7, 1, 0, 1),))


class BesideTest(unittest.TestCase):

    def check(self, frame, rows):
        beside = helper.slow_beside(frame, rows)
        for signs in rows:
            self.assertEqual(same_twice(self, cells.faces, frame, signs), beside[signs][0], (frame, signs))
            self.assertEqual(same_twice(self, cells.cofaces, frame, signs), beside[signs][1], (frame, signs))

    def test_told(self):
        self.check(E_FRAME, E_CELLS)
        self.assertEqual(cells.faces(E_FRAME, LOW), [(-1, -1, -1, 0, 1), (-1, -1, -1, 1, 0), LINE])
        self.assertEqual(cells.cofaces(E_FRAME, LINE), [LOW, HIGH])
        self.assertEqual(cells.faces(E_FRAME, LINE), [(-1, 0, 0, 0, 1), (0, -1, 0, 1, 0)])
        self.assertEqual(cells.cofaces(E_FRAME, CORNER), [(-1, -1, -1, 0, 1), (-1, -1, -1, 1, 0)])
        self.assertEqual(cells.cofaces(E_FRAME, (-1, 0, 0, 0, 1)), [(-1, -1, -1, 0, 1), LINE, (-1, 0, 1, 1, 1)])
        self.assertEqual(cells.faces(E_FRAME, CORNER), [])
        self.assertEqual(cells.cofaces(E_FRAME, LOW), [])

    def test_as_found_another_way(self):
        numbers = Numbers(135)
        for _ in range(70):
            frame = helper.some_frame(numbers, (9, 6, 3))
            self.check(frame, cells.all_cells(frame))

    def test_both_ways_round_in_great_frames(self):
        for frame in (upright_frame(1, 60), slanted(2, 40), upright_frame(3, 20), slanted(3, 10)):
            rows = cells.all_cells(frame)
            pairs = {(one, other) for one in rows for other in cells.cofaces(frame, one)}
            self.assertEqual(pairs, {(one, other) for other in rows for one in cells.faces(frame, other)})
            self.assertTrue({row for pair in pairs for row in pair} <= set(rows))

    def test_forms_through_one_point(self):
        forms = [(0, 1, 1, 0), (0, 1, 0, 1), (0, 0, 1, 1), (0, 1, 1, 1)]
        frame = frame_with(((-1, 1),) * 3, forms)
        rows = cells.all_cells(frame)
        self.check(frame, rows)
        middle = helper.slow_signs(frame, (0, 0, 0))
        self.assertEqual(cells.dimension(frame, middle), 0)
        self.assertEqual(len(cells.cofaces(frame, middle)), 12)
