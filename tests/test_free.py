import time
import unittest
from fractions import Fraction

from sweptfree import free
from tests import helper
from tests.helper import D_SCENE, R_MODES, R_SCENE, SQUARE, Y_SCENE, Numbers, as_pair, replaced, same_twice

Y_MODE = ((), (0,))
LITTLE = Fraction(1, 10 ** 12)
ARM, WALLS = (0, 0), (2, 0)


def standing_of(*numbers):
    return tuple(as_pair(Fraction(n)) for n in numbers)


class FreeTest(unittest.TestCase):

    def check(self, scene, mode, standing):
        """What is told at a standing, held against areas and corners."""
        q = helper.numbers_of(standing)
        within = all(low <= x <= high for (low, high), x in zip(scene[0], q))
        words = {pair: helper.slow_relation_at(scene, mode, standing, *pair)
                 for pair in helper.slow_looked_at(scene, mode)}
        meets = sorted(pair for pair in words if words[pair] == "meet")
        touches = sorted(pair for pair in words if words[pair] == "touch")
        self.assertIs(same_twice(self, free.is_within, scene, standing), within)
        self.assertEqual(same_twice(self, free.meeting, scene, mode, standing), meets, (scene, mode, standing))
        self.assertEqual(same_twice(self, free.touching, scene, mode, standing), touches, (scene, mode, standing))
        is_free, is_clear = within and not meets, within and not meets and not touches
        self.assertIs(same_twice(self, free.is_free, scene, mode, standing), is_free)
        self.assertIs(same_twice(self, free.is_clear, scene, mode, standing), is_clear)
        return (within, is_free, is_clear, bool(touches))

    def test_told(self):
        for x, y, word in ((3, 4, "touch"), (3, 3, "meet"), (3, 5, "clear"), (2, 4, "touch"), (2, 0, "touch"),
                           (1, 0, "clear"), (0, 0, "clear"), (10, 6, "clear"), (6, 4, "touch"), (6, 0, "touch"),
                           (7, 0, "clear"), (4, 0, "meet"), (2 + LITTLE, 4 - LITTLE, "meet"), (2 + LITTLE, 4, "touch"),
                           (2 - LITTLE, 0, "clear"), (4, 4 + LITTLE, "clear")):
            self.assertEqual(self.check(Y_SCENE, Y_MODE, standing_of(x, y)),
                             (True, word != "meet", word == "clear", word == "touch"), (x, y))

    def test_limits(self):
        for x, y, within in ((0, 0, True), (10, 0, True), (0, 6, True), (10, 6, True), (-LITTLE, 0, False),
                             (10 + LITTLE, 3, False), (0, -LITTLE, False), (1, 6 + LITTLE, False), (-5, -5, False),
                             (10 - LITTLE, 6 - LITTLE, True)):
            self.assertEqual(self.check(Y_SCENE, Y_MODE, standing_of(x, y)), (within, within, within, False), (x, y))
        beyond = standing_of(3, -1)
        self.assertEqual(self.check(Y_SCENE, Y_MODE, beyond)[:2], (False, False))
        self.assertEqual(free.meeting(Y_SCENE, Y_MODE, beyond), [(ARM, WALLS)])
        self.assertEqual(free.touching(Y_SCENE, Y_MODE, standing_of(3, -2)), [(ARM, WALLS)])
        self.assertEqual(free.touching(D_SCENE, ((), (0,)), standing_of(2)), [(ARM, WALLS)])
        self.assertEqual(free.meeting(D_SCENE, ((), (0,)), standing_of(Fraction(7, 2))), [(ARM, WALLS)])

    def test_always_touching(self):
        """Two movers on one rail, side by side: the contact () bars nothing to be free, and all to be clear."""
        scene = (((0, 9),), (("m", ((SQUARE,),), (0, 1), (0, 0)), ("n", ((SQUARE,),), (1, 1), (0, 0))), (), (), (), ())
        for x in (0, 1, Fraction(17, 2), 9):
            self.assertEqual(self.check(scene, ((), (0, 0)), standing_of(x)), (True, True, False, True))
        joined = replaced(scene, (4,), ((0, 1),))
        self.assertEqual(self.check(joined, ((), (0, 0)), standing_of(3)), (True, True, True, False))
        inside = replaced(scene, (1, 1, 2), (0, 1))
        self.assertEqual(self.check(inside, ((), (0, 0)), standing_of(3)), (True, False, False, False))

    def test_what_is_held(self):
        """A square that is held reaches as far as the mover's own, one higher."""
        scene = (((0, 9),), (("m", ((SQUARE,),), (0, 1), (0, 0)),), (((5, 1), (6, 1), (6, 2), (5, 2)),),
                 (("t", (SQUARE,), ((0, 1), (8, 1))),), (), (("grip", 0, 0, 0, (0, 0), (0, 1), 1),))
        lies, holds = ((0,), (0,)), ((("held", 0),), (0,))
        mover, held = (ARM, WALLS), ((1, 0), WALLS)
        for x, meets, touches in ((0, [], []), (4, [], [mover, held]), (Fraction(9, 2), [held], [mover]),
                                  (5, [held], [mover]), (6, [], [mover, held]), (7, [], [])):
            standing = standing_of(x)
            self.check(scene, holds, standing)
            self.assertEqual(free.meeting(scene, holds, standing), meets)
            self.assertEqual(free.touching(scene, holds, standing), touches)
            self.check(scene, lies, standing)
        self.assertEqual(free.meeting(scene, lies, standing_of(5)), [])
        self.assertEqual(free.touching(scene, lies, standing_of(5)), [((0, 0), (2, 0))])
        self.assertEqual(free.touching(scene, lies, standing_of(0)), [((0, 0), (1, 0))])
        self.assertEqual(free.touching(scene, holds, standing_of(0)), [])

    def test_many_bodies(self):
        numbers = Numbers(91)
        for mode in R_MODES:
            for _ in range(6):
                self.check(R_SCENE, mode, helper.some_standing(numbers, R_SCENE))

    def test_as_the_second_opinion(self):
        numbers = Numbers(92)
        seen = {}
        for _ in range(150):
            scene = helper.some_scene(numbers)
            mode = helper.some_mode(numbers, scene)
            for _ in range(4):
                found = self.check(scene, mode, helper.some_standing(numbers, scene))
                seen[found] = seen.get(found, 0) + 1
        for row in ((True, True, True, False), (True, True, False, True), (True, False, False, False)):
            self.assertGreater(seen.get(row, 0), 5, seen)

    def test_many_questions(self):
        """The four functions, asked 200 times each for a scene of several shapes, in good time."""
        two, wedge = ((0, 0), (2, 0), (2, 2), (0, 2)), ((0, 0), (3, 0), (0, 2))
        scene = (
            ((0, 9), (0, 6), (-2, 5)),
            (("a", ((two, wedge),), (0, 1, 0, 0), (0, 0, 1, 0)), ("b", ((two,), (wedge,)), (3, 0, 0, 1), (1, 1, 0, 0)),
             ("c", ((wedge, two),), (0, 0, 1, 1), (5, 0, 0, 0))),
            (two, ((6, 0), (8, 0), (8, 3), (6, 3)), ((4, 4), (7, 4), (5, 6))),
            (("t", (two,), ((9, 9), (3, 5))), ("u", (wedge, two), ((0, 7),))), (), ())
        mode, standing = ((0, 0), (0, 0, 0)), ((7, 3), (5, 2), (1, 2))
        meets = [((0, 0), (0, 1)), ((0, 0), (2, 0)), ((0, 1), (0, 2)), ((0, 1), (2, 0)), ((0, 2), (2, 0))]
        self.assertEqual(self.check(scene, mode, standing), (True, False, False, True))
        before = time.process_time()
        for _ in range(200):
            self.assertIs(free.is_free(scene, mode, standing), False)
            self.assertIs(free.is_clear(scene, mode, standing), False)
            self.assertEqual(free.meeting(scene, mode, standing), meets)
            self.assertEqual(free.touching(scene, mode, standing), [((0, 2), (1, 1))])
        self.assertLess(time.process_time() - before, 0.5)
