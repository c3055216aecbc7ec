import time
import unittest
from fractions import Fraction

from sweptfree import bench
from sweptfree.free import is_clear
from sweptfree.plans import plan
from tests import helper
from tests.helper import (BOX, R_MODES, R_SCENE, SQUARE, Y_SCENE, Z_PLAN, Z_SCENE, Z_TASK, Numbers, as_fraction, as_pair,
                          replaced, same_twice)
from tests.test_tasks import HELD, LAID, LIES, at

ARM, WALLS, THING = (0, 0), (2, 0), (1, 0)
Y_MODE = ((), (0,))
# A square on a rail, and above the rail two walls that share an edge, one farther on, and one on the rail's other side.
RAIL = (((0, 20),), (("m", ((SQUARE,),), (0, 1), (0, 0)),),
        (((3, 1), (5, 1), (5, 2), (3, 2)), ((5, 1), (6, 1), (6, 2), (5, 2)), ((10, 1), (11, 1), (11, 2), (10, 2)),
         ((12, -1), (13, -1), (13, 0), (12, 0))), (), (), ())


def spans(touches):
    return [(low[0] / low[1], high[0] / high[1]) for _, low, high in touches]


class TouchesTest(unittest.TestCase):

    def check(self, scene, mode, q, r):
        """The touches of a go, held against what touches, by areas and corners, at all moments that count."""
        found = same_twice(self, bench.touches_on, scene, mode, q, r)
        self.assertIs(type(found), list)
        first, last = helper.numbers_of(q), helper.numbers_of(r)
        expected = []
        for one, other in helper.slow_looked_at(scene, mode):
            moments = {Fraction(0), Fraction(1)}
            from sweptfree.bars import contacts_between
            for contact in contacts_between(scene, mode, one, other)[0]:
                for form, _ in contact:
                    a, b = helper.slow_value(form, first), helper.slow_value(form, last)
                    if a * b <= 0 and a != b:
                        moments.add(a / (a - b))
            moments = sorted(moments)
            told = []
            for a, b in zip(moments, moments[1:] + [None]):
                told.append((a, a))
                if b is not None:
                    told.append((a, b))
            now = None
            for a, b in told:
                t = (a + b) / 2
                standing = tuple(as_pair(x + (y - x) * t) for x, y in zip(first, last))
                touches = helper.slow_relation_at(scene, mode, standing, one, other) != "clear"
                if touches and now is None:
                    now = [a, b]
                elif touches:
                    now[1] = b
                elif now is not None:
                    expected.append(((one, other), as_pair(now[0]), as_pair(now[1])))
                    now = None
            if now is not None:
                expected.append(((one, other), as_pair(now[0]), as_pair(now[1])))
        self.assertEqual(found, expected, (scene, mode, q, r))
        turned = [(pair, as_pair(1 - as_fraction(high)), as_pair(1 - as_fraction(low))) for pair, low, high in found]
        self.assertEqual(bench.touches_on(scene, mode, r, q),
                         sorted(turned, key=lambda touch: (touch[0], as_fraction(touch[1]))))
        return found

    def test_told(self):
        pair = (ARM, WALLS)
        for q, r, touches in ((0, 20, [(.1, .3), (.45, .65)]), (0, 2, [(1, 1)]), (0, 1, []), (2, 6, [(0, 1)]),
                              (6, 8, [(0, 0)]), (7, 8, []), (2, 2, [(0, 1)]), (7, 7, []), (9, 13, [(0, 1)]),
                              (4, 8, [(0, .5)]), (20, 0, [(.35, .55), (.7, .9)])):
            found = self.check(RAIL, Y_MODE, at(q), at(r))
            self.assertEqual({touch[0] for touch in found}, {pair} if touches else set())
            self.assertEqual(spans(found), touches, (q, r))

    def test_moments_alone_and_insides(self):
        corner = self.check(Y_SCENE, Y_MODE, at(0, 6), at(6, 0))
        self.assertEqual(corner, [((ARM, WALLS), (1, 3), (1, 1))])
        passing = self.check(Y_SCENE, Y_MODE, at(0, 2), at(4, 6))
        self.assertEqual(passing, [((ARM, WALLS), (1, 2), (1, 2))])
        through = self.check(Y_SCENE, Y_MODE, at(0, 0), at(10, 0))
        self.assertEqual(through, [((ARM, WALLS), (1, 5), (3, 5))])
        self.assertEqual(self.check(Y_SCENE, Y_MODE, at(4, 1), at(4, 1)), [((ARM, WALLS), (0, 1), (1, 1))])

    def test_two_touches_of_one_moment(self):
        """Two walls that share a corner alone are touched one behind the other, and put together."""
        scene = replaced(RAIL, (2,), (((3, 1), (5, 1), (5, 2), (3, 2)), ((6, 1), (8, 1), (8, 2), (6, 2))))
        self.assertEqual(spans(self.check(scene, Y_MODE, at(0), at(10))), [(.2, .8)])
        apart = replaced(RAIL, (2,), (((3, 1), (5, 1), (5, 2), (3, 2)), ((7, 1), (8, 1), (8, 2), (7, 2))))
        self.assertEqual(spans(self.check(apart, Y_MODE, at(0), at(10))), [(.2, .5), (.6, .8)])

    def test_contacts_without_pairs(self):
        scene = (((0, 9),), (("m", ((SQUARE,),), (0, 1), (0, 0)), ("n", ((SQUARE, BOX),), (1, 1), (0, 0)),
                             ("o", ((SQUARE,),), (5, 1), (0, 0))), (), (), (), ())
        mode = ((), (0, 0, 0))
        found = self.check(scene, mode, at(0), at(9))
        self.assertEqual(found, [(((0, 0), (0, 1)), (0, 1), (1, 1))])
        self.assertEqual(self.check(scene, mode, at(3), at(3)), found)
        self.assertEqual(self.check(replaced(scene, (4,), ((0, 1),)), mode, at(0), at(9)), [])

    def test_what_is_held(self):
        self.assertEqual(self.check(Z_SCENE, LIES, at(0), at(8)), [((ARM, THING), (1, 8), (3, 8))])
        self.assertEqual(self.check(Z_SCENE, HELD, at(0), at(8)), [])
        self.assertEqual(self.check(Z_SCENE, LAID, at(0), at(8)), [((ARM, THING), (5, 8), (7, 8))])

    def test_many_bodies(self):
        numbers = Numbers(361)
        for mode in R_MODES:
            q, r = (tuple(as_pair(Fraction(numbers.between(2 * low, 2 * high), 2)) for low, high in R_SCENE[0])
                    for _ in range(2))
            self.check(R_SCENE, mode, q, r)

    def test_as_the_second_opinion(self):
        numbers = Numbers(362)
        seen = {}
        for _ in range(120):
            scene = helper.some_scene(numbers)
            mode = helper.some_mode(numbers, scene)
            q, r = (tuple(as_pair(Fraction(numbers.between(2 * low, 2 * high), 2)) for low, high in scene[0])
                    for _ in range(2))
            for _, low, high in self.check(scene, mode, q, r):
                kind = (low == (0, 1), high == (1, 1), low == high)
                seen[kind] = seen.get(kind, 0) + 1
        for kind in ((True, True, False), (True, False, False), (False, True, False), (False, False, False)):
            self.assertGreater(seen.get(kind, 0), 5, seen)


class BenchTest(unittest.TestCase):

    def test_z(self):
        desk = bench.Bench(Z_SCENE, Z_TASK, Z_PLAN)
        self.assertEqual(desk.steps(), 4)
        self.assertEqual([desk.position(k) for k in range(5)],
                         [(LIES, at(1)), (LIES, at(2)), (HELD, at(2)), (HELD, at(6)), (LAID, at(6))])
        for k, t, x in ((0, (0, 1), 1), (0, (1, 1), 2), (0, (1, 3), Fraction(4, 3)), (2, (1, 2), 4), (2, (1, 1), 6)):
            self.assertEqual(desk.standing(k, t), at(x))
        self.assertEqual(desk.touches(0), [((ARM, THING), (0, 1), (1, 1))])
        self.assertEqual(desk.touches(2), [])
        self.assertIs(desk.is_quiet(), False)
        again = desk.touches(0)
        again.append(1)
        self.assertEqual(desk.touches(0), [((ARM, THING), (0, 1), (1, 1))])

    def test_quiet(self):
        far = (at(8), LIES, ())
        for steps, quiet in (((), True), ((("go", at(7)),), True), ((("go", at(7)), ("go", at(3))), False),
                             ((("go", at(5)), ("go", at(7)), ("go", at(5))), True), ((("go", at(8)),), True),
                             ((("go", at(3)), ("go", at(3))), False)):
            self.assertIs(bench.Bench(Z_SCENE, far, steps).is_quiet(), quiet, steps)
        deeds_alone = (at(2), LIES, ())
        self.assertIs(bench.Bench(Z_SCENE, deeds_alone, (("deed", 0),)).is_quiet(), True)
        self.assertEqual(bench.Bench(Z_SCENE, deeds_alone, (("deed", 0),)).position(1), (HELD, at(2)))
        empty = bench.Bench(Z_SCENE, Z_TASK, ())
        self.assertEqual((empty.steps(), empty.position(0)), (0, (LIES, at(1))))

    def test_made_anew(self):
        for k in (0, 2):
            self.assertEqual(bench.Bench(Z_SCENE, Z_TASK, Z_PLAN).touches(k),
                             bench.touches_on(Z_SCENE, (LIES, HELD)[k // 2], (at(1), at(2))[k // 2], (at(2), at(6))[k // 2]))

    def test_plans_that_are_told(self):
        for scene, task in helper.rail_tasks(371, 12) + helper.rail_tasks(372, 3, 2):
            word, steps = plan(scene, task)
            if word == "none":
                continue
            desk = bench.Bench(scene, task, steps)
            quiet = True
            mode, standing = task[1], task[0]
            for k, (kind, aim) in enumerate(steps):
                self.assertEqual(desk.position(k), (mode, standing))
                if kind == "go":
                    touches = desk.touches(k)
                    self.assertEqual(touches, bench.touches_on(scene, mode, standing, aim))
                    quiet = quiet and not touches
                    for t in ((0, 1), (1, 1), (1, 2), (2, 7)):
                        now = desk.standing(k, t)
                        touched = [pair for pair, low, high in touches
                                   if as_fraction(low) <= as_fraction(t) <= as_fraction(high)]
                        self.assertIs(is_clear(scene, mode, now), not touched)
                    standing = aim
                else:
                    mode = helper.slow_mode_behind(scene, mode, aim)
            self.assertEqual(desk.position(len(steps)), (mode, standing))
            self.assertEqual(desk.steps(), len(steps))
            self.assertIs(desk.is_quiet(), quiet)

    def test_long_plans(self):
        before = time.process_time()
        steps = (("go", at(7)), ("go", at(5))) * 2000
        desk = bench.Bench(Z_SCENE, (at(8), LIES, ()), steps)
        self.assertIs(desk.is_quiet(), True)
        self.assertEqual(desk.position(4000), (LIES, at(5)))
        self.assertLess(time.process_time() - before, 20)
