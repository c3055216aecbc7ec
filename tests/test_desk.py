import copy
import unittest

from sweptfree import plans, prices
from sweptfree.desk import Desk
from sweptfree.errors import BadAct, NoTask, NothingDone, TooGreat, UnknownName
from tests import helper
from tests.helper import (ANYTHING, BOX, D_SCENE, NO_POINTS, SQUARE, Z_SCENE, Z_TASK, Z_WALLED, Numbers, outcome,
                          replaced)
from tests.test_nodes import great_scene
from tests.test_tasks import HELD, LIES, at, many_modes

WALL = Z_WALLED[2][0]
TOP = ((0, 9), (1, 9), (1, 10), (0, 10))


def desk_with(*acts):
    desk = Desk()
    for act in acts:
        desk.do(act)
    return desk


def asked(desk):
    """All that a desk answers about its scene and its task, but for which plan or paper."""
    told = [desk.scene(), desk.task(), desk.acts()]
    if desk.task() is None:
        return told + [outcome(question) for question in (desk.plan, desk.paper, desk.price)]
    return told + [desk.plan() is None, desk.paper() is None, desk.price()]


class ActsTest(unittest.TestCase):

    def check(self, desk, act, word):
        """An act and the word with which it cannot be done, which changes nothing."""
        before = (desk.scene(), desk.task(), desk.acts())
        self.assertEqual(desk.act_word(act), word, act)
        self.assertEqual(desk.act_word(act), word)
        self.assertEqual((desk.scene(), desk.task(), desk.acts()), before)
        if word is not None:
            self.assertEqual(outcome(desk.do, act), ("BadAct", {"word": word}))
            self.assertEqual((desk.scene(), desk.task(), desk.acts()), before)
        else:
            many = len(desk.acts())
            self.assertEqual(desk.do(act), many + 1)
            self.assertEqual(desk.acts(), before[2] + [act])

    def test_form(self):
        for desk in (Desk(), desk_with(("scene", Z_SCENE)), desk_with(("scene", Z_SCENE), ("task", Z_TASK))):
            for act in ANYTHING + (("scene",), ("scene", Z_SCENE, 0), ["scene", Z_SCENE], ("task",), ("wall",),
                                   ("wall", SQUARE, 1), ("unwall",), ("unwall", 0, 0), ("price", 0), ("price", 0, 0, 0),
                                   ("walls", 0), ("", 0), (0, 0), (None, 0), (("scene",), Z_SCENE), (["scene"], 0),
                                   ({}, 0), ("undo",), helper.nested(40)):
                self.check(desk, act, "form")

    def test_scene(self):
        desk = Desk()
        for value in ANYTHING + (helper.BARE_SCENE, replaced(Z_SCENE, (0,), ((3, 3),)), list(Z_SCENE)):
            self.check(desk, ("scene", value), "scene")
        self.check(desk, ("scene", Z_SCENE), None)
        self.check(desk, ("task", Z_TASK), None)
        self.assertEqual((desk.scene(), desk.task()), (Z_SCENE, Z_TASK))
        self.check(desk, ("scene", helper.FULL_SCENE), "scene")
        self.check(desk, ("scene", D_SCENE), None)
        self.assertEqual((desk.scene(), desk.task()), (D_SCENE, None))

    def test_none_ahead_of_all_else(self):
        desk = Desk()
        for act in (("task", Z_TASK), ("task", 7), ("wall", SQUARE), ("wall", None), ("unwall", 0), ("unwall", "a"),
                    ("price", 0, 0), ("price", None, None)):
            self.check(desk, act, "none")
            self.check(desk, act, "none")

    def test_task(self):
        desk = desk_with(("scene", Z_SCENE))
        for value in ANYTHING + ((at(9), LIES, ()), (at(1), ((2,), (0,)), ()), (at(1), LIES, (("thing", 0, 2),))):
            self.check(desk, ("task", value), "task")
        self.check(desk, ("task", Z_TASK), None)
        self.check(desk, ("task", (at(1), HELD, ())), None)
        self.assertEqual(desk.task(), (at(1), HELD, ()))

    def test_wall(self):
        desk = desk_with(("scene", Z_SCENE), ("task", Z_TASK))
        for value in NO_POINTS + (SQUARE[1:] + SQUARE[:1], list(SQUARE), SQUARE[:2], (SQUARE,), ((0, 0), (1, 0), (2, 0))):
            self.check(desk, ("wall", value), "piece")
        self.check(desk, ("wall", BOX), "start")
        self.check(desk, ("wall", ((1, 0), (2, 0), (2, 1), (1, 1))), "start")
        self.check(desk, ("wall", ((2, 0), (3, 0), (3, 1), (2, 1))), None)
        self.check(desk, ("wall", WALL), None)
        self.assertEqual((desk.scene()[2], desk.task()), ((((2, 0), (3, 0), (3, 1), (2, 1)), WALL), Z_TASK))
        for _ in range(6):
            self.check(desk, ("wall", TOP), None)
        self.check(desk, ("wall", TOP), "many")
        self.check(desk, ("wall", BOX), "many")
        self.check(desk, ("wall", 7), "piece")
        self.check(desk, ("unwall", 3), None)
        self.check(desk, ("wall", BOX), "start")
        self.check(desk, ("wall", TOP), None)
        without_task = desk_with(("scene", Z_SCENE))
        self.check(without_task, ("wall", BOX), None)
        self.check(without_task, ("task", Z_TASK), "task")
        many = desk_with(("scene", replaced(Z_SCENE, (2,), (TOP,) * 11)))
        self.check(many, ("wall", TOP), "many")
        for _ in range(4):
            self.check(many, ("unwall", 0), None)
        self.check(many, ("wall", TOP), None)
        self.check(many, ("wall", TOP), "many")

    def test_unwall(self):
        desk = desk_with(("scene", Z_SCENE), ("wall", WALL), ("wall", TOP), ("wall", SQUARE), ("task", Z_TASK))
        for number in (3, -1, True, False, None, "0", (0,), 10 ** 39, [0]):
            self.check(desk, ("unwall", number), "number")
        self.check(desk, ("unwall", 1), None)
        self.assertEqual((desk.scene()[2], desk.task()), ((WALL, SQUARE), Z_TASK))
        self.check(desk, ("unwall", 1), None)
        self.check(desk, ("unwall", 0), None)
        self.check(desk, ("unwall", 0), "number")
        self.assertEqual(desk.scene(), Z_SCENE)

    def test_price(self):
        desk = desk_with(("scene", Z_SCENE), ("task", Z_TASK))
        for number in (2, -1, True, None, "0"):
            self.check(desk, ("price", number, 0), "number")
            self.check(desk, ("price", number, -1), "number")
        for price in (-1, True, None, "0", (0, 1)):
            self.check(desk, ("price", 0, price), "price")
        self.check(desk, ("price", 0, 10 ** 18), None)
        self.check(desk, ("price", 1, 0), None)
        self.assertEqual([deed[-1] for deed in desk.scene()[5]], [10 ** 18, 0])
        self.assertEqual([deed[:-1] for deed in desk.scene()[5]], [deed[:-1] for deed in Z_SCENE[5]])
        self.assertEqual((desk.task(), desk.price()), (Z_TASK, 10 ** 18))

    def test_error(self):
        with self.assertRaises(BadAct) as caught:
            Desk().do(("wall", 0))
        self.assertEqual(caught.exception.word, "none")


class UndoTest(unittest.TestCase):

    def test_nothing_done(self):
        desk = Desk()
        self.assertRaises(NothingDone, desk.undo)
        self.assertRaises(NothingDone, desk.redo)
        desk.do(("scene", Z_SCENE))
        self.assertRaises(NothingDone, desk.redo)
        self.assertEqual(desk.undo(), 0)
        self.assertRaises(NothingDone, desk.undo)
        self.assertEqual((desk.scene(), desk.task(), desk.acts()), (None, None, []))
        self.assertEqual(desk.redo(), 1)
        self.assertRaises(NothingDone, desk.redo)
        self.assertEqual(desk.acts(), [("scene", Z_SCENE)])

    def test_what_can_be_done_again(self):
        """Refused acts, marks and questions take nothing away of it; an act does, even an equal one."""
        desk = desk_with(("scene", Z_SCENE), ("task", Z_TASK), ("wall", WALL))
        self.assertEqual((desk.undo(), desk.undo()), (2, 1))
        self.assertRaises(BadAct, desk.do, ("unwall", 7))
        desk.mark("here")
        self.assertRaises(NoTask, desk.plan)
        self.assertEqual(desk.redo(), 2)
        desk.plan()
        desk.price()
        self.assertEqual((desk.redo(), desk.scene()), (3, Z_WALLED))
        self.assertEqual(desk.undo(), 2)
        self.assertEqual(desk.do(("wall", WALL)), 3)
        self.assertRaises(NothingDone, desk.redo)
        self.assertEqual((desk.undo(), desk.undo()), (2, 1))
        self.assertEqual(desk.do(("task", Z_TASK)), 2)
        self.assertRaises(NothingDone, desk.redo)
        self.assertEqual(desk.acts(), [("scene", Z_SCENE), ("task", Z_TASK)])

    def test_as_new_desks(self):
        numbers = Numbers(381)
        acts = (("scene", Z_SCENE), ("scene", D_SCENE), ("task", Z_TASK), ("task", (at(1), ((), (0,)), ())), ("wall", WALL),
                ("wall", BOX), ("unwall", 0), ("price", 0, 7), ("price", 1, 0), ("price", 5, 1), "odd")
        desk, done, back = Desk(), [], []
        for _ in range(400):
            change = numbers.below(6)
            if change == 0 and done:
                self.assertEqual(desk.undo(), len(done) - 1)
                back.append(done.pop())
            elif change == 1 and back:
                self.assertEqual(desk.redo(), len(done) + 1)
                done.append(back.pop())
            elif change > 1:
                act = numbers.choice(acts)
                if desk.act_word(act) is None:
                    self.assertEqual(desk.do(act), len(done) + 1)
                    done.append(act)
                    back = []
                else:
                    self.assertRaises(BadAct, desk.do, act)
            self.assertEqual(asked(desk), asked(desk_with(*done)))
            self.assertEqual(desk.acts(), done)


class QuestionsTest(unittest.TestCase):

    def test_no_task(self):
        for desk in (Desk(), desk_with(("scene", Z_SCENE)),
                     desk_with(("scene", Z_SCENE), ("task", Z_TASK), ("scene", Z_SCENE))):
            for question in (desk.plan, desk.paper, desk.price):
                self.assertRaises(NoTask, question)
            self.assertEqual(desk.work(), (0, 0))

    def test_answers(self):
        desk = desk_with(("scene", Z_SCENE), ("task", Z_TASK))
        steps = desk.plan()
        self.assertIsNone(plans.judge_plan(Z_SCENE, Z_TASK, steps))
        self.assertEqual((desk.paper(), desk.price()), (None, 5))
        desk.do(("wall", WALL))
        self.assertIsNone(desk.plan())
        self.assertIsNone(plans.judge_none(Z_WALLED, Z_TASK, desk.paper()))
        self.assertIsNone(desk.price())
        desk.undo()
        self.assertEqual(desk.plan(), steps)

    def test_work(self):
        desk = desk_with(("scene", Z_SCENE), ("task", Z_TASK))
        self.assertEqual(desk.work(), (0, 0))
        desk.plan()
        self.assertEqual(desk.work(), (1, 0))
        desk.paper()
        desk.plan()
        self.assertEqual(desk.work(), (1, 0))
        desk.price()
        desk.price()
        self.assertEqual(desk.work(), (1, 1))
        desk.do(("price", 0, 9))
        desk.plan()
        self.assertEqual(desk.work(), (1, 1))
        self.assertEqual(desk.price(), 11)
        self.assertEqual(desk.work(), (1, 2))
        desk.do(("price", 0, 3))
        self.assertEqual((desk.price(), desk.work()), (5, (1, 2)))
        desk.do(("wall", WALL))
        self.assertEqual((desk.price(), desk.work()), (None, (1, 3)))
        desk.paper()
        self.assertEqual(desk.work(), (2, 3))
        desk.undo()
        desk.undo()
        desk.undo()
        self.assertEqual((desk.plan() is not None, desk.price(), desk.work()), (True, 5, (2, 3)))
        desk.redo()
        self.assertEqual((desk.price(), desk.work()), (11, (2, 3)))
        desk.do(("wall", TOP))
        desk.plan()
        self.assertEqual(desk.work(), (3, 3))
        desk.do(("task", (at(1), LIES, (("thing", 0, 1), ("thing", 0, 1)))))
        desk.plan()
        self.assertEqual(desk.work(), (4, 3))
        desk.do(("scene", Z_SCENE))
        desk.do(("task", Z_TASK))
        desk.plan()
        desk.price()
        self.assertEqual(desk.work(), (4, 3))

    def test_first_price_then_plan(self):
        desk = desk_with(("scene", Z_SCENE), ("task", Z_TASK))
        desk.price()
        self.assertEqual(desk.work(), (0, 1))
        desk.plan()
        self.assertEqual(desk.work(), (1, 1))

    def test_same_plan_for_other_prices(self):
        for scene, task in helper.rail_tasks(391, 6):
            desk = desk_with(("scene", scene), ("task", task))
            told = (desk.plan(), desk.paper())
            for k in range(len(scene[5])):
                desk.do(("price", k, 50 - k))
                self.assertEqual((desk.plan(), desk.paper()), told)
            self.assertEqual(desk.price(), prices.least_price(desk.scene(), task))
            self.assertEqual(desk.work(), (1, 1))

    def test_too_great(self):
        for scene, task in ((many_modes(24), (at(0), ((0,), (0, 0)), ())), (great_scene(30), (at(0), ((), (0,)), ()))):
            desk = desk_with(("scene", scene), ("task", task))
            for question in (desk.plan, desk.paper, desk.price, desk.plan):
                self.assertRaises(TooGreat, question)
            self.assertEqual((desk.work(), desk.task()), ((0, 0), task))

    def test_acts_stay_as_they_are(self):
        acts = [("scene", Z_SCENE), ("task", Z_TASK), ("wall", WALL), ("unwall", 0), ("price", 1, 4), ["odd"], {"a": [1]}]
        before = copy.deepcopy(acts)
        desk = Desk()
        for act in acts:
            desk.act_word(act)
            outcome(desk.do, act)
        self.assertEqual(acts, before)
        self.assertEqual(desk.acts(), before[:5])

    def test_what_is_returned_is_new(self):
        desk = desk_with(("scene", Z_SCENE))
        desk.mark("a")
        for answer in (desk.acts, desk.marks):
            told = answer()
            answer().append("b")
            self.assertEqual(answer(), told)
            self.assertIs(type(told), list)
        self.assertIs(type(desk.work()), tuple)


class MarksTest(unittest.TestCase):

    def test_marks(self):
        desk = Desk()
        self.assertEqual(desk.marks(), [])
        self.assertIsNone(desk.mark("start"))
        self.assertEqual((desk.since("start"), desk.marks()), (0, ["start"]))
        desk.do(("scene", Z_SCENE))
        desk.do(("task", Z_TASK))
        desk.mark("b2")
        desk.mark("a")
        self.assertEqual([desk.since(name) for name in ("start", "b2", "a")], [2, 0, 0])
        desk.undo()
        desk.undo()
        self.assertEqual([desk.since(name) for name in ("start", "b2", "a")], [0, -2, -2])
        desk.mark("b2")
        desk.redo()
        self.assertEqual([desk.since(name) for name in ("start", "b2", "a")], [1, 1, -1])
        self.assertEqual(desk.marks(), ["a", "b2", "start"])
        desk.do(("wall", TOP))
        self.assertEqual(desk.since("a"), 0)

    def test_unknown_names(self):
        desk = Desk()
        desk.mark("a")
        for name in ANYTHING + ("b", "A", "", "a ", ["a"], ("a",), {"a": 1}, helper.nested(40)):
            if name != "a":
                with self.assertRaises(UnknownName) as caught:
                    desk.since(name)
                self.assertEqual(caught.exception.name, name)
        self.assertEqual((desk.since("a"), desk.marks()), (0, ["a"]))


class TwinTest(unittest.TestCase):

    def test_twins_go_their_own_way(self):
        desk = desk_with(("scene", Z_SCENE), ("task", Z_TASK), ("wall", WALL))
        desk.mark("m")
        desk.undo()
        steps = desk.plan()
        twin = desk.twin()
        self.assertIs(type(twin), Desk)
        self.assertEqual((twin.acts(), twin.marks(), twin.since("m"), twin.work(), twin.plan(), twin.work()),
                         (desk.acts(), ["m"], -1, (1, 0), steps, (1, 0)))
        self.assertEqual((twin.redo(), twin.scene(), desk.scene()), (3, Z_WALLED, Z_SCENE))
        twin.mark("n")
        twin.price()
        self.assertIsNotNone(twin.paper())
        self.assertEqual((desk.marks(), desk.work(), twin.work()), (["m"], (1, 0), (2, 1)))
        desk.do(("price", 0, 1))
        self.assertRaises(NothingDone, desk.redo)
        self.assertEqual((len(desk.acts()), len(twin.acts())), (3, 3))
        self.assertEqual((desk.price(), desk.work(), twin.work()), (3, (1, 1), (2, 1)))
        twin.undo()
        self.assertEqual((twin.redo(), desk.acts()[-1]), (3, ("price", 0, 1)))
        desk.mark("m")
        self.assertEqual((desk.since("m"), twin.since("m")), (0, 0))
        desk.undo()
        self.assertEqual((desk.since("m"), twin.since("m")), (-1, 0))
        third = twin.twin().twin()
        self.assertEqual((third.acts(), third.work()), (twin.acts(), twin.work()))
