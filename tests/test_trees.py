import unittest

from sweptfree.errors import BadTree
from sweptfree.trees import check_scene_tree, check_task_tree, part_at
from tests import helper
from tests.helper import ANYTHING, BARE_SCENE, BARE_TASK, D_SCENE, FULL_SCENE, FULL_TASK, SQUARE, replaced


def integer(value):
    return type(value) is int


def number(value):
    return integer(value) and value >= 0


def point(value):
    return type(value) is tuple and len(value) == 2 and all(integer(n) for n in value)


def name(value):
    return type(value) is str and helper.re.fullmatch("[a-z][a-z0-9]{0,11}", value) is not None


def piece(value):
    return type(value) is tuple and len(value) > 2 and all(point(corner) for corner in value)


def start(value):
    return type(value) is tuple and len(value) > 0 and all(
        point(x) and x[1] > 0 and helper.as_pair(helper.as_fraction(x)) == x for x in value)


def mode(value):
    def lie(part):
        return number(part) or (type(part) is tuple and len(part) == 2 and part[0] == "held" and number(part[1]))
    return (type(value) is tuple and len(value) == 2 and all(type(part) is tuple for part in value)
            and all(lie(part) for part in value[0]) and all(number(part) for part in value[1]))


def row(least, part, most=10 ** 9):
    return ("row", least, most, part)


SHAPE = row(1, piece)
SCENE = ("told", (
    row(1, ("told", (integer, integer)), 3),
    row(0, ("told", (name, row(1, SHAPE), row(1, integer), row(1, integer)))),
    row(0, piece),
    row(0, ("told", (name, SHAPE, row(1, point)))),
    row(0, ("told", (number, lambda value: value is None or number(value)))),
    row(0, ("words", {
        "grip": (number, number, number, point, point, number),
        "lay": (number, number, point, number),
        "turn": (number, number, number, point, SHAPE, number),
    })),
))
TASK = ("told", (start, mode, row(0, ("words", {"thing": (number, number), "mover": (number, point)}))))


def first_wrong(value, told):
    """The path of the first wrong part by S1.2, found from a table: a second opinion."""
    if callable(told):
        return None if told(value) else ()
    if type(value) is not tuple:
        return ()
    if told[0] == "row":
        parts = [told[3]] * len(value)
        right = told[1] <= len(value) <= told[2]
    elif told[0] == "told":
        parts = told[1]
        right = len(value) == len(parts)
    else:
        word = value[0] if value and type(value[0]) is str else ""
        parts = (lambda _: True,) + told[1].get(word, ())
        right = word in told[1] and len(value) == len(parts)
    if not right:
        return ()
    for k, part in enumerate(parts):
        path = first_wrong(value[k], part)
        if path is not None:
            return (k,) + path
    return None


class TreesTest(unittest.TestCase):

    def path_of(self, check, value):
        before = repr(value)
        try:
            self.assertIsNone(check(value))
            path = None
        except BadTree as error:
            path = error.path
            self.assertIs(type(path), tuple)
        self.assertEqual(repr(value), before)
        return path

    def test_right_ones(self):
        for scene in (D_SCENE, FULL_SCENE, BARE_SCENE):
            self.assertIsNone(check_scene_tree(scene))
        for task in (FULL_TASK, BARE_TASK):
            self.assertIsNone(check_task_tree(task))

    def test_scene_paths_told(self):
        for path, part, wrong in (
                ((), None, ()), ((), list(D_SCENE), ()), ((), D_SCENE[:5], ()), ((), D_SCENE + ((),), ()),
                ((0,), (), (0,)), ((0,), ((0, 1),) * 4, (0,)), ((0,), [(0, 1)], (0,)), ((0, 0), (0,), (0, 0)),
                ((0, 0), (0, 1, 2), (0, 0)), ((0, 0), [0, 1], (0, 0)), ((0, 0, 1), True, (0, 0, 1)),
                ((0, 0), (None, "a"), (0, 0, 0)), ((1,), [], (1,)), ((1, 1), (), (1, 1)),
                ((1, 0, 0), "M", (1, 0, 0)), ((1, 0, 1), (), (1, 0, 1)), ((1, 0, 1, 1), (), (1, 0, 1, 1)),
                ((1, 0, 1, 1, 1), ((0, 0), (1, 0)), (1, 0, 1, 1, 1)),
                ((1, 0, 1, 1, 1, 2), (1, None), (1, 0, 1, 1, 1)), ((1, 0, 2), (), (1, 0, 2)),
                ((1, 0, 3, 2), False, (1, 0, 3, 2)), ((2, 1, 0), 4, (2, 1)), ((3, 0, 2), (), (3, 0, 2)),
                ((3, 0, 2, 1), [6, 1], (3, 0, 2, 1)), ((4, 0), (0,), (4, 0)), ((4, 0, 0), None, (4, 0, 0)),
                ((4, 0, 1), -1, (4, 0, 1)), ((5, 0, 0), "take", (5, 0)), ((5, 0, 0), ["grip"], (5, 0)),
                ((5, 1), (), (5, 1)), ((5, 1), ("lay", 0, 1, (6, 0)), (5, 1)), ((5, 1, 0), "grip", (5, 1)),
                ((5, 0, 4), (2,), (5, 0, 4)), ((5, 2, 5), (), (5, 2, 5)), ((5, 2, 5, 1), (), (5, 2, 5, 1)),
                ((5, 2, 6), -1, (5, 2, 6)), ((5, 1, 4), True, (5, 1, 4))):
            self.assertEqual(self.path_of(check_scene_tree, replaced(FULL_SCENE, path, part)), wrong, (path, part))

    def test_task_paths_told(self):
        for path, part, wrong in (
                ((), FULL_TASK[:2], ()), ((), list(FULL_TASK), ()), ((0,), ((2, 4),), (0,)), ((0,), (), (0,)),
                ((0,), [(1, 1)], (0,)), ((0, 0), (1, 0), (0,)), ((0, 0), 1, (0,)), ((1,), ((), (), ()), (1,)),
                ((1, 0, 0), -1, (1,)), ((1, 0, 1), ("holds", 3), (1,)), ((1, 0, 1), ("held", -1), (1,)),
                ((1, 0, 1), ["held", 3], (1,)), ((1, 1, 0), True, (1,)), ((1, 1), [0], (1,)), ((2,), None, (2,)),
                ((2, 0), ("thing", 0), (2, 0)), ((2, 0, 0), "mover", (2, 0, 2)), ((2, 1, 0), "thing", (2, 1, 2)),
                ((2, 1, 0), "things", (2, 1)), ((2, 1, 2), (0,), (2, 1, 2)), ((2, 1, 1), -1, (2, 1, 1))):
            self.assertEqual(self.path_of(check_task_tree, replaced(FULL_TASK, path, part)), wrong, (path, part))

    def check_all_kinds(self, check, tree, told):
        for path in helper.all_paths(tree):
            for part in ANYTHING:
                value = replaced(tree, path, part)
                self.assertEqual(self.path_of(check, value), first_wrong(value, told), (path, part))

    def test_each_kind_at_each_place_of_a_scene(self):
        self.check_all_kinds(check_scene_tree, FULL_SCENE, SCENE)

    def test_each_kind_at_each_place_of_a_task(self):
        self.check_all_kinds(check_task_tree, FULL_TASK, TASK)

    def test_too_few_and_too_many_members(self):
        for check, tree, told in ((check_scene_tree, FULL_SCENE, SCENE), (check_task_tree, FULL_TASK, TASK)):
            for path in helper.all_paths(tree):
                part = part_at(tree, path)
                if isinstance(part, tuple):
                    for other in (part[:-1], part[1:], part + part[:1], part + (None,), list(part), {0: part}):
                        value = replaced(tree, path, other)
                        self.assertEqual(self.path_of(check, value), first_wrong(value, told), (path, other))

    def test_the_first_of_two_wrong_parts(self):
        numbers = helper.Numbers(1)
        for check, tree, told in ((check_scene_tree, FULL_SCENE, SCENE), (check_task_tree, FULL_TASK, TASK)):
            paths = helper.all_paths(tree)[1:]
            for _ in range(3000):
                value = replaced(tree, numbers.choice(paths), numbers.choice(ANYTHING))
                path = numbers.choice(paths)
                try:
                    value = replaced(value, path, numbers.choice(ANYTHING))
                except (TypeError, LookupError):
                    continue
                self.assertEqual(self.path_of(check, value), first_wrong(value, told))

    def test_anything(self):
        for check, told in ((check_scene_tree, SCENE), (check_task_tree, TASK)):
            for value in ANYTHING + (helper.nested(40), helper.nested(60), BadTree([0])):
                self.assertEqual(self.path_of(check, value), first_wrong(value, told))
        self.assertEqual(self.path_of(check_task_tree, (0, 0, 0)), (0,))
        for value in (None, True, 3, "scene", [], {}, (), helper.nested(40), BadTree([0])):
            self.assertEqual(self.path_of(check_scene_tree, value), ())
            self.assertEqual(self.path_of(check_task_tree, value), ())
        for check in (check_scene_tree, check_task_tree):
            helper.same_twice(self, check, D_SCENE)

    def test_part_at(self):
        self.assertEqual(part_at(D_SCENE, ()), D_SCENE)
        self.assertEqual(part_at(FULL_SCENE, (1, 0, 1, 1, 0)), SQUARE)
        self.assertEqual(part_at(FULL_SCENE, [5, 2, 0]), "turn")
        self.assertIsNone(part_at(FULL_SCENE, (4, 1, 1)))
        self.assertEqual(part_at(FULL_TASK, (2, 1, 2)), (-4, 7))
        for path in helper.all_paths(FULL_SCENE):
            self.assertEqual(replaced(FULL_SCENE, path, part_at(FULL_SCENE, path)), FULL_SCENE)

    def test_great_ones_in_good_time(self):
        scene = replaced(FULL_SCENE, (2,), (tuple((k, -k) for k in range(30000)),) * 3)
        self.assertIsNone(check_scene_tree(scene))
        self.assertEqual(self.path_of(check_scene_tree, replaced(scene, (2, 2, 29999), None)), (2, 2))
