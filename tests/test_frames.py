import unittest
from fractions import Fraction

from sweptfree import free, frames
from sweptfree.bars import bars_of, contacts_of, forms_in
from tests import helper
from tests.helper import (ANYTHING, E_FRAME, R_MODES, R_SCENE, Numbers, as_pair, frame_with, nested, replaced, same_twice)

THREE = frame_with(((0, 1), (-5, 9), (2, 3)), [(1, 2, 3, 4), (0, 1, 0, 0), (7, 0, 0, 5)])
ONE = frame_with(((-2, 3),), [(1, 2), (-1, 3)])


class CheckTest(unittest.TestCase):

    def wrong(self, value, path):
        self.assertEqual(same_twice(self, frames.check_frame, value), ("BadFrame", {"path": path}), value)

    def right(self, value):
        self.assertIsNone(same_twice(self, frames.check_frame, value))

    def test_right_ones(self):
        for frame in (E_FRAME, THREE, ONE, frame_with(((-10 ** 20, 10 ** 20),) * 2, [(10 ** 39, 1, 0)])):
            self.right(frame)
        numbers = Numbers(121)
        for _ in range(60):
            self.right(helper.some_frame(numbers))

    def test_itself(self):
        for value in ANYTHING + (nested(40), list(E_FRAME), E_FRAME[:1], E_FRAME + ((),), {0: E_FRAME[0], 1: E_FRAME[1]}):
            if type(value) is not tuple or len(value) != 2:
                self.wrong(value, ())
            else:
                path = frames_fault(value)
                self.wrong(value, path)

    def test_limits(self):
        for limits in ((), [(0, 4), (0, 4)], None, 5, ((0, 4),) * 4, "ab", {}):
            self.wrong((limits, E_FRAME[1]), (0,))
            self.wrong((limits, None), (0,))
        for pair in ((4, 0), (4, 4), (0,), (0, 4, 5), [0, 4], None, (True, 4), (0, True), ("0", 4), ((0, 1), (4, 1)), 7):
            for k in (0, 1):
                self.wrong(replaced(E_FRAME, (0, k), pair), (0, k))
            self.wrong(((pair, pair), None), (0, 0))
            self.wrong((((0, 1), (0, 1), pair), ()), (0, 2))

    def test_forms(self):
        for forms in (None, list(E_FRAME[1]), 7, "ab", {}):
            self.wrong((E_FRAME[0], forms), (1,))
        for form in (None, (), (1, 2), (1, 2, 3, 4), [-4, 1, 1], (0, 0, 0), (5, 0, 0), (1, 0, 0), (2, 4, 6), (0, 2, 0),
                     (-3, -1, 1), (-3, 0, -1), (-4, True, 1), (-4, 1, None), ((0, 1), 1, 1), 7, "abc", (4, 0, -1),
                     (-4, 2, 2)):
            for n in range(5):
                self.wrong(replaced(E_FRAME, (1, n), form), (1, n))
            self.wrong((E_FRAME[0], (form,)), (1, 0))
            self.wrong((E_FRAME[0], E_FRAME[1] + (form,)), (1, 5))

    def test_not_greater_than_the_one_before(self):
        forms = E_FRAME[1]
        for n in range(1, 5):
            self.wrong((E_FRAME[0], forms[:n] + (forms[n - 1],) + forms[n:]), (1, n))
            swapped = forms[:n - 1] + (forms[n], forms[n - 1]) + forms[n + 1:]
            self.wrong((E_FRAME[0], swapped), (1, n))
        self.wrong((E_FRAME[0], forms[::-1]), (1, 1))
        self.wrong((E_FRAME[0], forms + (forms[0], (2, 4, 6))), (1, 5))

    def test_a_limit_form_is_not_there(self):
        for frame in (E_FRAME, THREE, ONE):
            bare = frame_with(frame[0], [])[1]
            for form in frame[1]:
                left = (frame[0], tuple(other for other in frame[1] if other != form))
                if form in bare:
                    self.wrong(left, (1,))
                else:
                    self.right(left)
            self.wrong((frame[0], ()), (1,))
            self.right((frame[0], bare))

    def test_two_at_once(self):
        self.wrong((((0, 4), (4, 0)), ((2, 2, 2),)), (0, 1))
        self.wrong((((0, 4), (0, 4)), ((2, 2, 2), None)), (1, 0))
        self.wrong((((0, 4), (0, 4)), ((-4, 1, 1), (-4, 1, 0), None)), (1, 1))
        self.wrong((((4, 0), (4, 0)), ()), (0, 0))
        self.wrong((((0, 4), (0, 4)), ((-4, 1, 1), None)), (1, 1))


def frames_fault(value):
    """The path of what is wrong with the pairs among values of all kinds."""
    limits = value[0]
    if type(limits) is not tuple or not 0 < len(limits) < 4:
        return (0,)
    for k, pair in enumerate(limits):
        if type(pair) is not tuple or len(pair) != 2 or {type(n) for n in pair} != {int} or pair[0] >= pair[1]:
            return (0, k)
    return (1,) if type(value[1]) is not tuple or not value[1] else (1, 0)


class FrameTest(unittest.TestCase):

    def test_frame_of(self):
        limits = ((0, 4), (0, 4))
        self.assertEqual(same_twice(self, frames.frame_of, limits, [(-4, 1, 1)]), E_FRAME)
        self.assertEqual(frames.frame_of(limits, ((-4, 1, 1), (0, 1, 0), (-4, 1, 1), (-4, 0, 1))), E_FRAME)
        self.assertEqual(frames.frame_of(limits, []), (limits, tuple(f for f in E_FRAME[1] if f != (-4, 1, 1))))
        self.assertEqual(frames.frame_of(((0, 6),), ()), (((0, 6),), ((-6, 1), (0, 1))))
        numbers = Numbers(122)
        for _ in range(60):
            limits, told = helper.some_frame(numbers)
            forms = [numbers.choice(told) for _ in range(numbers.between(0, 9))]
            frame = same_twice(self, frames.frame_of, limits, forms)
            self.assertEqual(frame, frame_with(limits, forms))
            self.assertIsNone(frames.check_frame(frame))

    def test_signs_at(self):
        for standing, signs in ((((1, 2), (1, 2)), (-1, -1, -1, 1, 1)), (((2, 1), (2, 1)), (-1, -1, 0, 1, 1)),
                                (((0, 1), (4, 1)), (0, -1, 0, 1, 0)), (((5, 1), (-1, 1)), (-1, 1, 0, -1, 1)),
                                (((4, 1), (4, 1)), (0, 0, 1, 1, 1)), (((0, 1), (0, 1)), (-1, -1, -1, 0, 0))):
            self.assertEqual(same_twice(self, frames.signs_at, E_FRAME, standing), signs)

    def test_as_the_second_opinion(self):
        numbers = Numbers(123)
        for _ in range(200):
            frame = helper.some_frame(numbers)
            below = numbers.choice((1, 1, 2, 10 ** 39))
            q = [Fraction(numbers.between((low - 1) * below, (high + 1) * below), below) for low, high in frame[0]]
            standing = tuple(as_pair(x) for x in q)
            self.assertEqual(frames.signs_at(frame, standing), helper.slow_signs(frame, q))
            within = all(low <= x <= high for x, (low, high) in zip(q, frame[0]))
            self.assertIs(same_twice(self, frames.is_within, frame, standing), within)

    def test_is_within(self):
        for x, y, within in ((0, 0, True), (4, 4, True), (0, 4, True), (-1, 0, False), (5, 4, False), (2, 5, False),
                             (2, -1, False), (2, 2, True)):
            self.assertIs(frames.is_within(E_FRAME, ((x, 1), (y, 1))), within)
        self.assertIs(frames.is_within(E_FRAME, ((10 ** 39 * 4 + 1, 10 ** 39), (0, 1))), False)
        self.assertIs(frames.is_within(E_FRAME, ((10 ** 39 * 4 - 1, 10 ** 39), (0, 1))), True)

    def test_signs_tell_what_is_free(self):
        """Standings of one row of signs are all free, or none is; and likewise clear."""
        numbers = Numbers(124)
        for mode in R_MODES[:3]:
            contacts = contacts_of(R_SCENE, mode)
            self.assertLessEqual(set(bars_of(R_SCENE, mode)), set(contacts))
            frame = frames.frame_of(R_SCENE[0], forms_in(contacts))
            told = {}
            for _ in range(40):
                standing = helper.some_standing(numbers, R_SCENE)
                words = (free.is_free(R_SCENE, mode, standing), free.is_clear(R_SCENE, mode, standing))
                self.assertEqual(told.setdefault(frames.signs_at(frame, standing), words), words)
