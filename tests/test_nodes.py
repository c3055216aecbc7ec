import unittest

from sweptfree import nodes
from sweptfree.cells import all_cells
from sweptfree.errors import TooGreat
from sweptfree.frames import signs_at
from tests import helper
from tests.helper import (SQUARE, TURN_SCENE, TURN_TASK, Z_SCENE, Z_TASK, Z_WALLED, replaced, same_twice)
from tests.test_tasks import HELD, LAID, LIES, at, many_modes

GREAT_TASK = (((0, 1),), ((0,), (0, 0)), ())


def great_scene(many):
    """One slider, and a wall of so many pieces that are far from each other: each of them gives two forms."""
    walls = tuple(((4 * k, 0), (4 * k + 1, 0), (4 * k + 1, 1), (4 * k, 1)) for k in range(1, many + 1))
    return (((0, 200),), (("m", ((SQUARE,),), (0, 1), (0, 0)),), walls, (), (), ())


class FramesTest(unittest.TestCase):

    def test_z(self):
        self.assertEqual(same_twice(self, nodes.task_frame, Z_WALLED, Z_TASK),
                         (((0, 8),), ((-8, 1), (-6, 1), (-5, 1), (-3, 1), (-2, 1), (0, 1))))
        self.assertEqual(nodes.task_frame(Z_SCENE, Z_TASK), (((0, 8),), ((-8, 1), (-6, 1), (-2, 1), (0, 1))))
        self.assertEqual(nodes.task_frame(Z_SCENE, (at(1), LAID, ())), (((0, 8),), ((-8, 1), (0, 1))))
        self.assertEqual(nodes.task_frame(Z_SCENE, (at(1), HELD, ())), (((0, 8),), ((-8, 1), (-6, 1), (0, 1))))
        self.assertEqual(nodes.task_frame(Z_SCENE, (at(1), LAID, (("mover", 0, (5, 0)), ("mover", 0, (5, 1)),
                                                                 ("mover", 0, (70, 0))))),
                         (((0, 8),), ((-70, 1), (-8, 1), (-5, 1), (0, 1))))

    def test_turns_and_places(self):
        frame = same_twice(self, nodes.task_frame, TURN_SCENE, TURN_TASK)
        self.assertEqual(frame, helper.slow_task_frame(TURN_SCENE, TURN_TASK))
        for form in ((-3, 1), (-1, 1), (-2, 1)):
            self.assertIn(form, frame[1])

    def test_as_the_second_opinion(self):
        for scene, task in helper.rail_tasks(301, 60):
            self.assertEqual(same_twice(self, nodes.task_frame, scene, task), helper.slow_task_frame(scene, task))


class NodesTest(unittest.TestCase):

    def check(self, scene, task, most=40):
        """Nodes, those next to them, and goal nodes, held against what can be done at standings."""
        slow = helper.SlowNodes(scene, task)
        seen = 0
        row = [(mode, cell) for cell in slow.cells for mode in slow.modes]
        for node in row[::max(1, len(row) // most)]:
            if slow.is_node(node):
                seen += 1
                found = same_twice(self, nodes.next_nodes, scene, task, node)
                self.assertIs(type(found), list)
                self.assertEqual(found, slow.next_to(node))
                self.assertIs(same_twice(self, nodes.is_goal_node, scene, task, node), slow.is_goal(node))
                self.assertEqual(same_twice(self, nodes.node_of, scene, task, node[0], slow.points[node[1]]), node)
        self.assertEqual(nodes.node_of(scene, task, task[1], task[0]), slow.start)
        return seen

    def test_z(self):
        self.assertEqual(self.check(Z_SCENE, Z_TASK), 21)
        self.assertEqual(self.check(Z_WALLED, Z_TASK), 11 + 11 + 5 + 5)
        frame = nodes.task_frame(Z_SCENE, Z_TASK)
        at_two = signs_at(frame, at(2))
        self.assertEqual(nodes.node_of(Z_SCENE, Z_TASK, LIES, at(2)), (LIES, at_two))
        self.assertEqual(nodes.next_nodes(Z_SCENE, Z_TASK, (LIES, at_two)),
                         [(LIES, (-1, -1, -1, 1)), (LIES, (-1, -1, 1, 1)), (HELD, at_two)])
        self.assertEqual(nodes.next_nodes(Z_SCENE, Z_TASK, (HELD, (-1, 0, 1, 1))),
                         [(LAID, (-1, 0, 1, 1)), (HELD, (-1, -1, 1, 1)), (HELD, (-1, 1, 1, 1))])
        for mode, told in ((LIES, False), (HELD, False), (LAID, True)):
            for cell in all_cells(frame):
                self.assertIs(nodes.is_goal_node(Z_SCENE, Z_TASK, (mode, cell)), told)
        two_goals = (at(1), LIES, (("thing", 0, 1), ("mover", 0, (2, 0)), ("mover", 0, (2, 0))))
        self.assertIs(nodes.is_goal_node(Z_SCENE, two_goals, (LAID, at_two)), True)
        self.assertIs(nodes.is_goal_node(Z_SCENE, two_goals, (HELD, at_two)), False)
        self.assertIs(nodes.is_goal_node(Z_SCENE, two_goals, (LAID, (-1, 0, 1, 1))), False)
        never = (at(1), LIES, (("mover", 0, (2, 1)),))
        self.assertIs(nodes.is_goal_node(Z_SCENE, never, nodes.node_of(Z_SCENE, never, LIES, at(2))), False)

    def test_turns(self):
        self.assertGreater(self.check(TURN_SCENE, TURN_TASK, 100), 20)

    def test_two_deeds_to_one_node(self):
        twice = replaced(Z_SCENE, (5,), (Z_SCENE[5][0],) + Z_SCENE[5] + (("lay", 0, 1, (6, 0), 9),))
        twice = replaced(twice, (5, 2, 1), 0)
        node = nodes.node_of(twice, Z_TASK, HELD, at(6))
        self.assertEqual([mode for mode, _ in nodes.next_nodes(twice, Z_TASK, node)].count(LAID), 1)
        self.check(twice, Z_TASK)

    def test_as_the_second_opinion(self):
        seen = 0
        for scene, task in helper.rail_tasks(302, 20) + helper.rail_tasks(303, 2, 2):
            seen += self.check(scene, task, 12)
        self.assertGreater(seen, 100)

    def test_too_many_modes(self):
        many = many_modes(24)
        for function, rest in ((nodes.task_frame, ()), (nodes.node_of, (GREAT_TASK[1], at(0))),
                               (nodes.next_nodes, ((GREAT_TASK[1], (0,) * 9),)),
                               (nodes.is_goal_node, ((GREAT_TASK[1], (0,) * 9),))):
            self.assertRaises(TooGreat, function, many, GREAT_TASK, *rest)
        few = many_modes(23)
        node = nodes.node_of(few, GREAT_TASK, GREAT_TASK[1], at(0))
        self.assertEqual(nodes.task_frame(few, GREAT_TASK), helper.slow_task_frame(few, GREAT_TASK))
        self.assertEqual([mode[0] for mode, _ in nodes.next_nodes(few, GREAT_TASK, node)], [(0,), (("held", 0),)])

    def test_frame_that_is_too_great(self):
        """A frame is told, and nodes, too, but not what is next to them."""
        for many, great in ((29, False), (30, True)):
            scene, task = great_scene(many), (at(0), ((), (0,)), ())
            frame = nodes.task_frame(scene, task)
            self.assertEqual(len(frame[1]), 2 * many + 2)
            node = nodes.node_of(scene, task, task[1], at(0))
            self.assertEqual(node, (task[1], signs_at(frame, at(0))))
            if great:
                self.assertRaises(TooGreat, nodes.next_nodes, scene, task, node)
                self.assertRaises(TooGreat, nodes.is_goal_node, scene, task, node)
            else:
                self.assertEqual(len(nodes.next_nodes(scene, task, node)), 1)
                self.assertIs(nodes.is_goal_node(scene, task, node), True)
