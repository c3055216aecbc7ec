import unittest
from fractions import Fraction

from sweptfree import plans
from sweptfree.errors import TooGreat
from sweptfree.nodes import node_of, task_frame
from tests import helper
from tests.helper import (ANYTHING, NO_FRACTIONS, TURN_SCENE, TURN_TASK, Z_PLAN, Z_SCENE, Z_TASK, Z_WALLED, Numbers,
                          replaced, same_twice)
from tests.test_nodes import GREAT_TASK, great_scene
from tests.test_tasks import HELD, LAID, LIES, T_SCENE, at, many_modes


def slow_plan_fault(scene, task, value):
    """The first fault of what has the form of a plan; goes are looked through at all moments at which bars turn."""
    from sweptfree.bars import bars_of
    standing, mode, goals = task
    for n, (word, aim) in enumerate(value):
        if word == "go":
            first, last = helper.numbers_of(standing), helper.numbers_of(aim)
            if not all(low <= x <= high for (low, high), x in zip(scene[0], last)):
                return ("go", n)
            for bar in bars_of(scene, mode):
                for t in helper.turning_moments(bar, standing, aim):
                    if bar == () or helper.slow_slack(bar, [a + (b - a) * t for a, b in zip(first, last)]) < 0:
                        return ("go", n)
            standing = aim
        else:
            why = helper.slow_deed_word(scene, mode, standing, aim)
            if why is not None:
                return ("deed", n, why)
            mode = helper.slow_mode_behind(scene, mode, aim)
    for k, (word, n, aim) in enumerate(goals):
        if not (mode[0][n] == aim if word == "thing" else helper.slow_stands(scene, n, aim, standing)):
            return ("goal", k)
    return None


def slow_paper_fault(slow, value):
    """The first fault of what has the form of a paper of none."""
    places = [(slow.order[mode], cell) for mode, cell in value]
    for n in range(1, len(value)):
        if places[n] <= places[n - 1]:
            return ("order", n)
    for n, node in enumerate(value):
        if not slow.is_node(node):
            return ("node", n)
    if slow.start not in value:
        return ("start",)
    for n, node in enumerate(value):
        if slow.is_goal(node):
            return ("goal", n)
    for n, node in enumerate(value):
        left = [other for other in slow.next_to(node) if other not in value]
        if left:
            return ("open", n, left[0])
    return None


class PlanTest(unittest.TestCase):

    def check(self, scene, task):
        """A right plan or a paper of none, as there is one."""
        word, told = same_twice(self, plans.plan, scene, task)
        self.assertIs(type(told), tuple)
        slow = helper.SlowNodes(scene, task)
        if word == "plan":
            self.assertIsNone(slow_plan_fault(scene, task, told), (scene, task, told))
            self.assertIsNone(same_twice(self, plans.judge_plan, scene, task, told))
            self.assertIsNotNone(slow.price())
        else:
            self.assertEqual(word, "none")
            self.assertIsNone(slow_paper_fault(slow, told))
            self.assertIsNone(same_twice(self, plans.judge_none, scene, task, told))
            self.assertIsNone(slow.price())
        return word, told

    def test_z(self):
        self.assertEqual(self.check(Z_SCENE, Z_TASK)[0], "plan")
        word, paper = self.check(Z_WALLED, Z_TASK)
        self.assertEqual((word, len(paper)), ("none", 16))
        self.assertEqual([mode for mode, _ in paper], [LIES] * 11 + [HELD] * 5)
        self.assertEqual(self.check(Z_SCENE, (at(1), LAID, (("thing", 0, 0),)))[0], "none")
        self.assertEqual(self.check(Z_SCENE, (at(1), HELD, (("thing", 0, 0),)))[0], "none")
        self.assertEqual(self.check(Z_SCENE, (at(1), HELD, (("thing", 0, 1), ("mover", 0, (0, 0)))))[0], "plan")

    def test_goals_at_the_start(self):
        for goals in ((), (("thing", 0, 0),), (("mover", 0, (1, 0)), ("thing", 0, 0))):
            self.assertEqual(self.check(Z_SCENE, (at(1), LIES, goals)), ("plan", ()))
        self.assertEqual(self.check(Z_WALLED, (at(1), LIES, (("mover", 0, (1, 0)),))), ("plan", ()))

    def test_goals_of_movers(self):
        self.assertEqual(self.check(Z_SCENE, (at(1), LIES, (("mover", 0, (7, 0)),)))[0], "plan")
        self.assertEqual(self.check(Z_SCENE, (at(1), LIES, (("mover", 0, (9, 0)),)))[0], "none")
        self.assertEqual(self.check(Z_SCENE, (at(1), LIES, (("mover", 0, (7, 1)),)))[0], "none")
        both = (("mover", 0, (7, 0)), ("mover", 0, (1, 0)))
        word, paper = self.check(Z_SCENE, (at(1), LIES, both))
        self.assertEqual(word, "none", "goals that are met on the way alone count for nothing")
        self.assertGreater(len(paper), 20)

    def test_turns(self):
        word, told = self.check(TURN_SCENE, TURN_TASK)
        self.assertEqual(word, "plan")
        tall = (at(0), ((0,), (0,)), (("mover", 0, (6, 0)), ("thing", 0, 0)))
        self.assertEqual(self.check(TURN_SCENE, tall)[0], "plan")
        start_tall = (at(0), ((1,), (1,)), (("mover", 0, (6, 0)),))
        self.assertEqual(self.check(TURN_SCENE, start_tall)[0], "none")
        self.assertEqual(self.check(TURN_SCENE, (at(0), ((2,), (1,)), (("mover", 0, (6, 0)),)))[0], "plan")
        self.assertEqual(self.check(T_SCENE, (at(1), ((1,), (0,)), (("mover", 0, (4, 0)), ("thing", 0, 1))))[0], "plan")

    def test_many_tasks(self):
        words = {}
        for scene, task in helper.rail_tasks(311, 60) + helper.rail_tasks(312, 8, 2):
            word, told = self.check(scene, task)
            deeds = [step for step in told if step[0] == "deed"] if word == "plan" else None
            kind = (word, deeds is not None and len(deeds) > 1)
            words[kind] = words.get(kind, 0) + 1
        for kind in (("plan", True), ("none", False)):
            self.assertGreater(words.get(kind, 0), 8, words)

    def test_two_sliders_around_a_wall(self):
        scene = (((0, 8), (0, 8)), (("m", ((helper.SQUARE,),), (0, 1, 0), (0, 0, 1)),),
                 (((4, 1), (5, 1), (5, 9), (4, 9)),), (("t", (helper.SQUARE,), ((1, 6), (7, 6))),), (),
                 (("grip", 0, 0, 0, (1, 5), (0, 1), 3), ("lay", 0, 1, (7, 5), 2)))
        task = (at(0, 0), ((0,), (0,)), (("thing", 0, 1), ("mover", 0, (0, 8))))
        self.assertEqual(self.check(scene, task)[0], "none", "what is held does not pass below the wall")
        higher = replaced(scene, (2,), (((4, 2), (5, 2), (5, 9), (4, 9)),))
        self.assertEqual(self.check(higher, task)[0], "plan")

    def test_too_great(self):
        many = many_modes(24)
        for function, rest in ((plans.plan, ()), (plans.judge_none, ((),)), (plans.judge_none, (7,))):
            self.assertRaises(TooGreat, function, many, GREAT_TASK, *rest)
            self.assertRaises(TooGreat, function, great_scene(30), (at(0), ((), (0,)), ()), *rest)
        self.assertEqual(plans.plan(many_modes(23), GREAT_TASK), ("plan", ()))
        goal = (("mover", 0, (9, 0)),)
        self.assertEqual(plans.plan(great_scene(29), (at(0), ((), (0,)), goal))[0], "none")
        self.assertEqual(plans.judge_plan(great_scene(30), (at(0), ((), (0,)), goal), ()), ("goal", 0))
        self.assertEqual(plans.judge_plan(great_scene(30), (at(0), ((), (0,)), goal), (("go", at(9)),)), ("go", 0))
        self.assertIsNone(plans.judge_plan(many, GREAT_TASK, (("go", at(5)),)))


class JudgePlanTest(unittest.TestCase):

    def test_form(self):
        for value in (list(Z_PLAN), Z_PLAN[0]):
            self.assertEqual(plans.judge_plan(Z_SCENE, Z_TASK, value), ("form",))
        for value in ANYTHING + (helper.nested(40),):
            told = same_twice(self, plans.judge_plan, Z_SCENE, Z_TASK, value)
            self.assertEqual(told, ("goal", 0) if value == () else ("form",), value)
            self.assertEqual(plans.judge_plan(Z_SCENE, Z_TASK, Z_PLAN + (value,)), ("form",), value)
        for step in (["go", at(1)], ("go", [(1, 1)]), ("go", at(1, 1)), ("go", ()), ("deed", 2), ("deed", -1),
                     ("deed", True), ("deed", None), ("deed",), ("go",), ("deed", 0, 0), ("go", at(1), 0), ("lay", 0),
                     ("deed", (0, 1)), ("go", 0), ("", 0), (0, 0)):
            self.assertEqual(plans.judge_plan(Z_SCENE, Z_TASK, (step,)), ("form",), step)
            self.assertEqual(plans.judge_plan(Z_SCENE, Z_TASK, (("deed", 0), step)), ("form",), step)
        for odd in NO_FRACTIONS:
            self.assertEqual(plans.judge_plan(Z_SCENE, Z_TASK, (("go", (odd,)),)), ("form",), odd)

    def test_faults_in_their_sequence(self):
        for scene, value, fault in (
                (Z_SCENE, Z_PLAN, None), (Z_SCENE, (), ("goal", 0)), (Z_SCENE, Z_PLAN[:3], ("goal", 0)),
                (Z_SCENE, Z_PLAN + (("go", at(1)), ("go", at(1))), None), (Z_SCENE, Z_PLAN[1:], ("deed", 0, "place")),
                (Z_SCENE, Z_PLAN[:1] + Z_PLAN[2:], ("deed", 2, "mode")), (Z_SCENE, (("go", at(9)),), ("go", 0)),
                (Z_SCENE, (("go", at(Fraction(-1, 5))), ("deed", 1)), ("go", 0)), (Z_WALLED, Z_PLAN, ("go", 2)),
                (Z_SCENE, Z_PLAN[:2] + (("go", at(5)), ("deed", 1)), ("deed", 3, "place")),
                (Z_WALLED, (("go", at(8)), ("deed", 1)), ("deed", 1, "mode")),
                (Z_WALLED, (("go", at(8)), ("go", at(0))), ("goal", 0))):
            self.assertEqual(same_twice(self, plans.judge_plan, scene, Z_TASK, value), fault, value)
            self.assertEqual(slow_plan_fault(scene, Z_TASK, value), fault)
        for start, mode, scene, word in ((at(3), ((0,), (0,)), T_SCENE, "behind"), (at(3), ((2,), (0,)), T_SCENE, "room"),
                                         (at(3), ((1,), (1,)), T_SCENE, "mode"), (at(2), ((1,), (0,)), T_SCENE, "place")):
            self.assertEqual(plans.judge_plan(scene, (start, mode, ()), (("deed", 0),)), ("deed", 0, word))
        goals = (("thing", 0, 1), ("mover", 0, (6, 0)), ("mover", 0, (1, 0)))
        self.assertEqual(plans.judge_plan(Z_SCENE, (at(1), LIES, goals), Z_PLAN), ("goal", 2))
        self.assertEqual(plans.judge_plan(Z_SCENE, (at(1), LIES, goals), Z_PLAN + (("go", at(1)),)), ("goal", 1))

    def test_as_the_second_opinion(self):
        numbers = Numbers(321)
        seen = {}
        for scene, task in helper.rail_tasks(322, 60):
            word, told = plans.plan(scene, task)
            for _ in range(5):
                steps = list(told) if word == "plan" else []
                for _ in range(numbers.below(3)):
                    change = numbers.below(3)
                    if change == 0:
                        step = ("go", tuple(helper.as_pair(Fraction(numbers.between(2 * low, 2 * high), 2))
                                            for low, high in scene[0]))
                        steps.insert(numbers.below(len(steps) + 1), step)
                    elif change == 1 and scene[5]:
                        steps.insert(numbers.below(len(steps) + 1), ("deed", numbers.below(len(scene[5]))))
                    elif steps:
                        steps.pop(numbers.below(len(steps)))
                fault = plans.judge_plan(scene, task, tuple(steps))
                self.assertEqual(fault, slow_plan_fault(scene, task, tuple(steps)), (scene, task, steps))
                kind = fault and (fault[0],) + fault[2:]
                seen[kind] = seen.get(kind, 0) + 1
        for kind in (None, ("goal",), ("go",), ("deed", "mode"), ("deed", "place")):
            self.assertGreater(seen.get(kind, 0), 4, seen)

    def test_long_plans(self):
        there_and_back = (("go", at(2)), ("go", at(1))) * 2000
        self.assertEqual(plans.judge_plan(Z_SCENE, Z_TASK, there_and_back), ("goal", 0))
        self.assertIsNone(plans.judge_plan(Z_SCENE, Z_TASK, there_and_back + Z_PLAN))


class JudgeNoneTest(unittest.TestCase):

    def setUp(self):
        self.paper = plans.plan(Z_WALLED, Z_TASK)[1]
        self.slow = helper.SlowNodes(Z_WALLED, Z_TASK)

    def judged(self, value):
        told = same_twice(self, plans.judge_none, Z_WALLED, Z_TASK, value)
        self.assertEqual(told, slow_paper_fault(self.slow, value), value)
        return told

    def test_form(self):
        for value in (list(self.paper), self.paper[0]):
            self.assertEqual(plans.judge_none(Z_WALLED, Z_TASK, value), ("form",))
        for value in ANYTHING + (helper.nested(40),):
            if value != ():
                told = same_twice(self, plans.judge_none, Z_WALLED, Z_TASK, value)
                self.assertEqual(told, ("form",), value)
            self.assertEqual(plans.judge_none(Z_WALLED, Z_TASK, self.paper + (value,)), ("form",), value)
        mode, cell = self.paper[0]
        for part in ((mode,), (mode, cell, 0), [mode, cell], (mode, list(cell)), (list(mode), cell), (mode, cell[:-1]),
                     (mode, cell + (0,)), (mode, cell[:-1] + (True,)), (mode, cell[:-1] + (2,)), ((False, 0), cell),
                     (((False,), (0,)), cell), (((0,), (False,)), cell), (((2,), (0,)), cell), (((0,), (1,)), cell),
                     ((("held", 1),), (0,)), (cell, mode), ((0,), cell)):
            self.assertEqual(plans.judge_none(Z_WALLED, Z_TASK, (part,)), ("form",), part)
        held = (at(1), HELD, ())
        paper = ((LIES, helper.slow_signs(task_frame(Z_WALLED, held), (1,))),)
        self.assertEqual(plans.judge_none(Z_WALLED, held, paper), ("form",), "no mode of the task")

    def test_faults_in_their_sequence(self):
        paper = self.paper
        self.assertIsNone(self.judged(paper))
        self.assertEqual(self.judged(()), ("start",))
        self.assertEqual(self.judged(paper[:1] + paper), ("order", 1))
        self.assertEqual(self.judged(paper + paper[-1:]), ("order", 16))
        self.assertEqual(self.judged(paper[11:] + paper[:11]), ("order", 5))
        self.assertEqual(self.judged(paper[:4] + paper[5:6] + paper[4:5] + paper[6:]), ("order", 5))
        no_cell = (LIES, (1, 1, 1, 1, 1, 1))
        self.assertEqual(self.judged(paper[:11] + (no_cell,) + paper[11:]), ("node", 11))
        barred = (HELD, helper.slow_signs(self.slow.frame, (4,)))
        self.assertEqual(self.judged(paper + (barred,)), ("node", 16))
        self.assertEqual(self.judged((no_cell, barred)), ("node", 0))
        self.assertEqual(self.judged((barred, no_cell)), ("order", 1))
        start = self.slow.start
        self.assertEqual(self.judged(tuple(node for node in paper if node != start)), ("start",))
        goal = (LAID, paper[0][1])
        self.assertEqual(self.judged(paper[:11] + (goal,) + paper[11:]), ("goal", 11))
        for k, node in enumerate(paper):
            if node != start:
                fault = self.judged(paper[:k] + paper[k + 1:])
                self.assertEqual((fault[0], fault[2]), ("open", node))
        self.assertEqual(self.judged((start,))[:2], ("open", 0))

    def test_as_the_second_opinion(self):
        numbers = Numbers(331)
        seen = {}
        for scene, task in helper.rail_tasks(332, 40):
            slow = helper.SlowNodes(scene, task)
            reached = slow.least()
            nodes = slow.sort([(mode, cell) for mode in slow.modes for cell in slow.cells])
            for _ in range(6):
                value = list(slow.sort(list(reached)))
                for _ in range(numbers.below(3)):
                    change = numbers.below(4)
                    if change == 0:
                        value = slow.sort(set(value) | {numbers.choice(nodes)})
                    elif change == 1:
                        value.insert(numbers.below(len(value) + 1), numbers.choice(nodes))
                    elif value:
                        value.pop(numbers.below(len(value)))
                fault = plans.judge_none(scene, task, tuple(value))
                self.assertEqual(fault, slow_paper_fault(slow, value))
                seen[fault and fault[0]] = seen.get(fault and fault[0], 0) + 1
        for word in (None, "order", "node", "start", "goal", "open"):
            self.assertGreater(seen.get(word, 0), 2, seen)

    def test_start_of_the_paper(self):
        self.assertEqual(self.slow.start, node_of(Z_WALLED, Z_TASK, LIES, at(1)))
