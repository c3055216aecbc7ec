import unittest
from fractions import Fraction

from sweptfree import tasks
from sweptfree.errors import BadTask, TooGreat
from sweptfree.free import is_free
from tests import helper
from tests.helper import (ANYTHING, BOX, NO_FRACTIONS, NO_POINTS, R_MODES, R_SCENE, SQUARE, Z_SCENE, Z_TASK, Z_WALLED,
                          Numbers, as_pair, outcome, replaced, same_twice)

LIES, HELD, LAID = ((0,), (0,)), ((("held", 0),), (0,)), ((1,), (0,))
R_TASK = (((0, 1), (0, 1), (20, 1)), R_MODES[0], (("thing", 1, 1), ("mover", 2, (-4, 7)), ("thing", 0, 2)))
# A mover on a rail with two faces, a small one and a tall one; a thing above it; a turn at (3, 0) and back at (5, 0).
T_SCENE = (
    ((0, 9),), (("m", ((SQUARE,), (((0, 0), (1, 0), (1, 3), (0, 3)),)), (0, 1), (0, 0)),),
    (((7, 2), (8, 2), (8, 3), (7, 3)),), (("t", (SQUARE,), ((3, 1), (0, 5), (3, 3))),), (),
    (("turn", 0, 0, 1, (3, 0), (((0, 0), (2, 0), (2, 4), (0, 4)),), 1), ("turn", 0, 1, 0, (5, 0), (BOX,), 0),
     ("grip", 0, 0, 1, (0, 4), (0, 1), 2), ("turn", 0, 0, 1, (7, 0), (SQUARE,), 4),
     ("grip", 0, 0, 0, (3, 0), (0, 1), 7), ("turn", 0, 0, 1, (2, 0), (((0, 0), (2, 0), (2, 4), (0, 4)),), 1)),
)


def at(*numbers):
    return tuple(as_pair(Fraction(n)) for n in numbers)


def fault_of(scene, value):
    told = outcome(tasks.check_task, scene, value)
    return told if told is None else told[1]["path"]


class CheckTest(unittest.TestCase):

    def check(self, scene, value, path):
        told = same_twice(self, tasks.check_task, scene, value)
        self.assertEqual(told, path if path is None else ("BadTask", {"path": path}), value)

    def test_right_tasks(self):
        self.check(Z_SCENE, Z_TASK, None)
        self.check(R_SCENE, R_TASK, None)
        self.check(Z_SCENE, (at(1), LIES, ()), None)
        self.check(Z_SCENE, (at(Fraction(1, 3)), HELD, (("mover", 0, (10 ** 39, -5)),) * 3), None)
        self.check(Z_SCENE, (at(8), LAID, (("mover", 0, (0, 0)), ("thing", 0, 0), ("thing", 0, 1))), None)

    def test_each_wrong_part(self):
        for value in ANYTHING + (helper.nested(40), [*Z_TASK], Z_TASK[:2], Z_TASK + (1,)):
            self.check(Z_SCENE, value, (0,) if isinstance(value, tuple) and len(value) == 3 else ())
        for start in ANYTHING + NO_FRACTIONS + (at(1, 1), [(1, 1)], ((2, 2),), ((1, True),)):
            if start not in (((0, 1), (1, 1)),):
                self.check(Z_SCENE, (start, LIES, Z_TASK[2]), (0,))
        for mode in ANYTHING + ([*LIES], ((0,), [0]), ([0], (0,)), ((2,), (0,)), ((0,), (1,)), ((0, 0), (0,)),
                                ((("held", 1),), (0,)), ((("held", 2),), (0,)), ((True,), (0,)), ((0,), (False,)),
                                ((-1,), (0,)), ((0,), ()), ((0,), (0,), ())):
            self.check(Z_SCENE, (at(1), mode, ()), (1,))
        for goals in ANYTHING + ([("thing", 0, 1)],):
            if goals != () and not isinstance(goals, tuple):
                self.check(Z_SCENE, (at(1), LIES, goals), (2,))
        for goal in ANYTHING + (("thing", 0), ("thing", 0, 1, 2), ["thing", 0, 1], ("walls", 0, 0), (0, 0, 1), ("mover", 0)):
            if goal not in (("thing", 0, 0), ("mover", 0, (0, 0))):
                self.check(Z_SCENE, (at(1), LIES, (goal,)), (2, 0))
                self.check(Z_SCENE, (at(1), LIES, Z_TASK[2] + (goal, 7)), (2, 1))
        for number in ANYTHING:
            if number != 0 or isinstance(number, bool):
                self.check(Z_SCENE, (at(1), LIES, (("thing", number, 0),)), (2, 0, 1))
                self.check(Z_SCENE, (at(1), LIES, (("mover", number, (0, 0)),)), (2, 0, 1))
            if number not in (0, 1) or isinstance(number, bool):
                self.check(Z_SCENE, (at(1), LIES, (("thing", 0, number),)), (2, 0, 2))
        for point in NO_POINTS + ((0, Fraction), (1, 2, 3)):
            self.check(Z_SCENE, (at(1), LIES, (("mover", 0, point),)), (2, 0, 2))
        self.check(Z_SCENE, (at(1), LIES, (("thing", 0, 2),)), (2, 0, 2))
        self.check(R_SCENE, replaced(R_TASK, (2, 1, 1), 3), (2, 1, 1))

    def test_of_several_wrong_parts_the_first(self):
        self.check(Z_SCENE, (1, 2, 3), (0,))
        self.check(Z_SCENE, (at(1), 2, 3), (1,))
        self.check(Z_SCENE, (at(1), LIES, (("thing", 7, 7),)), (2, 0, 1))
        self.check(Z_SCENE, (at(9), LIES, (("thing", 0, 7),)), (2, 0, 2))
        self.check(Z_SCENE, (at(9), LIES, (("thing", 0, 0), 5)), (2, 1))
        self.check(Z_SCENE, (at(1, 1), 5, 5), (0,))

    def test_start_that_is_not_free(self):
        for start, mode, scene, path in ((at(9), LIES, Z_SCENE, (0,)), (at(Fraction(-1, 9)), LIES, Z_SCENE, (0,)),
                                         (at(4), HELD, Z_WALLED, (0,)), (at(4), LIES, Z_WALLED, None),
                                         (at(3), HELD, Z_WALLED, None), (at(Fraction(7, 2)), HELD, Z_WALLED, (0,)),
                                         (at(4), HELD, Z_SCENE, None)):
            self.check(scene, (start, mode, ()), path)
            self.check(scene, (start, mode, (("thing", 0, 5),)), (2, 0, 2))

    def test_as_the_second_opinion(self):
        numbers = Numbers(241)
        seen = {}
        for _ in range(250):
            scene = helper.some_scene(numbers)
            start, mode = helper.some_standing(numbers, scene), helper.some_mode(numbers, scene)
            free = helper.slow_is_free(scene, mode, start)
            goals = tuple(helper.some_goal(numbers, scene) for _ in range(numbers.below(4)))
            self.check(scene, (start, mode, goals), None if free else (0,))
            seen[free] = seen.get(free, 0) + 1
        self.assertGreater(min(seen.values()), 20, seen)

    def test_error(self):
        with self.assertRaises(BadTask) as caught:
            tasks.check_task(Z_SCENE, (at(1), LIES, (("thing", 0, 2),)))
        self.assertEqual(caught.exception.path, (2, 0, 2))


class DeedsTest(unittest.TestCase):

    def check(self, scene, mode, standing, number):
        behind = same_twice(self, tasks.mode_behind, scene, mode, number)
        self.assertEqual(behind, helper.slow_mode_behind(scene, mode, number))
        word = same_twice(self, tasks.deed_word, scene, mode, standing, number)
        self.assertEqual(word, helper.slow_deed_word(scene, mode, standing, number), (scene, mode, standing, number))
        return word

    def test_z(self):
        self.assertEqual(tasks.mode_behind(Z_SCENE, LIES, 0), HELD)
        self.assertIsNone(tasks.mode_behind(Z_SCENE, LIES, 1))
        self.assertIsNone(tasks.mode_behind(Z_SCENE, HELD, 0))
        self.assertEqual(tasks.mode_behind(Z_SCENE, HELD, 1), LAID)
        self.assertIsNone(tasks.mode_behind(Z_SCENE, LAID, 0))
        for mode, x, number, word in ((LIES, 2, 0, None), (LIES, 1, 0, "place"), (LIES, 2, 1, "mode"), (HELD, 6, 1, None),
                                      (HELD, 6, 0, "mode"), (HELD, 2, 1, "place"), (LAID, 2, 0, "mode"),
                                      (LIES, 9, 0, "place"), (LIES, Fraction(5, 2), 0, "place")):
            self.assertEqual(self.check(Z_SCENE, mode, at(x), number), word)

    def test_each_word(self):
        """Where a deed's mover stands, something else is in the way: ahead of the deed, behind it, in the room."""
        low, tall = ((1,), (0,)), ((1,), (1,))
        self.assertIsNone(self.check(T_SCENE, low, at(3), 0))
        self.assertEqual(self.check(T_SCENE, ((0,), (0,)), at(3), 0), "behind")
        self.assertEqual(self.check(T_SCENE, ((2,), (0,)), at(3), 0), "room")
        self.assertEqual(self.check(T_SCENE, ((2,), (0,)), at(2), 5), "room")
        self.assertEqual(self.check(T_SCENE, low, at(2), 0), "place")
        self.assertEqual(self.check(T_SCENE, tall, at(3), 0), "mode")
        self.assertEqual(self.check(T_SCENE, low, at(7), 3), "behind")
        self.assertIsNone(self.check(T_SCENE, tall, at(5), 1))
        self.assertEqual(self.check(T_SCENE, ((("held", 2),), (0,)), at(3), 0), "mode")
        self.assertEqual(self.check(T_SCENE, ((("held", 2),), (1,)), at(5), 1), "mode")
        self.assertEqual(self.check(replaced(T_SCENE, (0,), ((0, 2),)), low, at(3), 0), "free")
        self.assertEqual(self.check(replaced(T_SCENE, (0,), ((0, 2),)), ((0,), (0,)), at(3), 0), "free")
        in_wall = replaced(T_SCENE, (2,), (((3, 0), (4, 0), (4, 1), (3, 1)),))
        self.assertEqual(self.check(in_wall, low, at(3), 0), "free")
        self.assertIsNone(self.check(T_SCENE, ((0,), (0,)), at(3), 4))
        joined = replaced(in_wall, (4,), ((0, None),))
        self.assertIsNone(self.check(joined, low, at(3), 0))
        self.assertEqual(self.check(joined, ((2,), (0,)), at(3), 0), "room")

    def test_never_there(self):
        """The mover is always at the height 0, and the spot asks for 4."""
        for x in (0, 1, 4):
            self.assertEqual(self.check(T_SCENE, ((1,), (0,)), at(x), 2), "place")

    def test_many_bodies(self):
        numbers = Numbers(251)
        seen = {}
        for mode in R_MODES:
            for number in range(len(R_SCENE[5])):
                for _ in range(2):
                    word = self.check(R_SCENE, mode, helper.some_standing(numbers, R_SCENE), number)
                    seen[word] = seen.get(word, 0) + 1
        self.assertGreater(seen["mode"], 20)

    def test_as_the_second_opinion(self):
        numbers = Numbers(252)
        seen = {}
        for _ in range(500):
            scene = helper.some_scene(numbers, numbers.choice((1, 1, 2)))
            if not scene[5]:
                continue
            for _ in range(3):
                mode = helper.some_mode(numbers, scene)
                number = numbers.below(len(scene[5]))
                if helper.slow_mode_behind(scene, mode, number) is None and numbers.below(3):
                    continue
                standing = helper.standing_for(numbers, scene, number)
                word = self.check(scene, mode, standing, number)
                kind = (scene[5][number][0], word)
                seen[kind] = seen.get(kind, 0) + 1
        for kind in (("grip", "mode"), ("grip", "place"), ("lay", "mode"), ("lay", "place"), ("turn", "place")):
            self.assertGreater(seen.get(kind, 0), 3, seen)
        for words in ((None,), ("free",), ("behind", "room")):
            self.assertGreater(sum(seen[kind] for kind in seen if kind[1] in words), 0, seen)


class GoalsTest(unittest.TestCase):

    def test_told(self):
        goals = (("thing", 0, 1), ("mover", 0, (2, 0)), ("thing", 0, 0), ("mover", 0, (2, 1)), ("mover", 0, (2, 0)))
        for mode, x, left in ((LIES, 2, [0, 3]), (LIES, 1, [0, 1, 3, 4]), (HELD, 2, [0, 2, 3]), (LAID, 2, [2, 3]),
                              (LAID, Fraction(5, 2), [1, 2, 3, 4])):
            self.assertEqual(same_twice(self, tasks.unmet, Z_SCENE, goals, mode, at(x)), left)
            self.assertEqual(tasks.unmet(Z_SCENE, list(goals), mode, at(x)), left)
        self.assertEqual(tasks.unmet(Z_SCENE, (), LIES, at(2)), [])

    def test_as_the_second_opinion(self):
        numbers = Numbers(261)
        for _ in range(100):
            scene = helper.some_scene(numbers)
            mode, standing = helper.some_mode(numbers, scene), helper.some_standing(numbers, scene)
            goals = tuple(helper.some_goal(numbers, scene) for _ in range(6))
            left = [k for k, (word, n, aim) in enumerate(goals)
                    if not (mode[0][n] == aim if word == "thing" else helper.slow_stands(scene, n, aim, standing))]
            self.assertEqual(same_twice(self, tasks.unmet, scene, goals, mode, standing), left)


def many_modes(many, turns=0):
    """A scene of one thing with so many spots, which a mover grips and lays at each; and of turns of another mover."""
    faces = tuple((SQUARE,) for _ in range(turns + 1))
    deeds = [("grip", 0, 0, 0, (0, 0), (0, 1), 0)]
    deeds.extend(("lay", 0, n, (2 * n, 0), 0) for n in range(1, many))
    deeds.extend(("turn", 1, n, n + 1, (-50, 0), (SQUARE,), 0) for n in range(turns))
    return (((0, 99),), (("m", ((SQUARE,),), (0, 1), (0, 0)), ("n", faces, (-50, 0), (0, 0))), (),
            (("t", (SQUARE,), tuple((2 * n, 1) for n in range(many))),), (), tuple(deeds))


class ModesTest(unittest.TestCase):

    def check(self, scene, mode):
        """The modes, and their sequence, by going over all deeds again and again."""
        found = {mode}
        grown = True
        while grown and len(found) < 60:
            behind = {helper.slow_mode_behind(scene, one, n) for one in found for n in range(len(scene[5]))}
            grown = not behind - {None} <= found
            found |= behind - {None}
        told = same_twice(self, tasks.modes_of, scene, mode)
        if len(found) > 24:
            self.assertEqual(told, ("TooGreat", {}))
            return None
        self.assertIs(type(told), list)
        self.assertEqual(set(told), found)
        self.assertEqual(len(told), len(found))
        rows = [tasks.mode_numbers(scene, one) for one in told]
        self.assertEqual(rows, sorted(rows))
        return told

    def test_z(self):
        self.assertEqual(self.check(Z_SCENE, LIES), [LIES, LAID, HELD])
        self.assertEqual(self.check(Z_SCENE, HELD), [LAID, HELD])
        self.assertEqual(self.check(Z_SCENE, LAID), [LAID])
        self.assertEqual([tasks.mode_numbers(Z_SCENE, mode) for mode in (LIES, LAID, HELD)], [(0, 0), (1, 0), (2, 0)])

    def test_numbers(self):
        for mode, told in zip(R_MODES, ((0, 0, 0, 0, 0), (2, 1, 1, 2, 0), (3, 0, 0, 1, 0), (1, 5, 0, 2, 0),
                                        (3, 4, 1, 0, 0), (10, 5, 0, 0, 0), (10, 1, 1, 1, 0))):
            self.assertEqual(same_twice(self, tasks.mode_numbers, R_SCENE, mode), told)

    def test_just_not_too_many(self):
        self.assertEqual(len(self.check(many_modes(23), ((0,), (0, 0)))), 24)
        self.assertIsNone(self.check(many_modes(24), ((0,), (0, 0))))
        self.assertEqual(len(self.check(many_modes(11, 1), ((0,), (0, 0)))), 24)
        self.assertEqual(len(self.check(many_modes(2, 7), ((0,), (0, 0)))), 24)
        self.assertIsNone(self.check(many_modes(12, 1), ((0,), (0, 0))))
        self.assertIsNone(self.check(many_modes(4, 4), ((0,), (0, 0))))
        self.assertEqual(len(self.check(many_modes(24), ((1,), (0, 0)))), 1)
        self.assertRaises(TooGreat, tasks.modes_of, many_modes(24), ((0,), (0, 0)))

    def test_many_things_and_movers(self):
        for mode in R_MODES + (((0, 0), (1, 0, 0)),):
            self.check(R_SCENE, mode)
        numbers = Numbers(271)
        sizes = {}
        for _ in range(200):
            scene = helper.some_scene(numbers)
            told = self.check(scene, helper.some_mode(numbers, scene))
            sizes[told and len(told)] = sizes.get(told and len(told), 0) + 1
        self.assertGreater(len(sizes), 6, sizes)

    def test_free_starts_of_modes(self):
        """Modes are told whether anything is free in them or not."""
        in_wall = replaced(Z_SCENE, (2,), (((0, 0), (9, 0), (9, 9), (0, 9)),))
        self.assertIs(is_free(in_wall, LIES, at(1)), False)
        self.assertEqual(tasks.modes_of(in_wall, LIES), [LIES, LAID, HELD])
