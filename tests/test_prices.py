import unittest

from sweptfree import prices
from sweptfree.errors import TooGreat
from sweptfree.plans import judge_plan
from tests import helper
from tests.helper import (ANYTHING, TURN_SCENE, TURN_TASK, Z_PLAN, Z_SCENE, Z_TASK, Z_WALLED, Numbers, replaced,
                          same_twice)
from tests.test_nodes import GREAT_TASK, great_scene
from tests.test_tasks import HELD, LAID, LIES, at, many_modes

# Besides those of Z: from spot 0 to a spot between, and on to spot 1, which costs less or more, as is told.
TWO_WAYS = replaced(replaced(Z_SCENE, (3, 0, 2), ((2, 1), (6, 1), (4, 1))), (5,), Z_SCENE[5] + (
    ("lay", 0, 2, (4, 0), 0), ("grip", 0, 0, 2, (4, 0), (0, 1), 1), ("lay", 3, 1, (6, 0), 0)))


def slow_fault(slow, n, value):
    """The first fault of what has the form of a price paper, by the words of the document."""
    places = [(slow.order[mode], cell) for mode, cell, _ in value]
    told = {(mode, cell): number for mode, cell, number in value}
    for k in range(1, len(value)):
        if places[k] <= places[k - 1]:
            return ("order", k)
    for k, (mode, cell, _) in enumerate(value):
        if not slow.is_node((mode, cell)):
            return ("node", k)
    if told.get(slow.start) != 0:
        return ("start",)
    for k, node in enumerate(told):
        for other, price, _ in slow.moves_once(node):
            if other not in told or told[other] > told[node] + price:
                return ("move", k)
    for k, node in enumerate(told):
        if slow.is_goal(node) and told[node] < n:
            return ("goal", k)
    return None


class PricesTest(unittest.TestCase):

    def check(self, scene, task, n=None):
        """All prices of a task, held against those of slow nodes; returns the least price."""
        slow = helper.SlowNodes(scene, task)
        least = slow.price()
        self.assertEqual(same_twice(self, prices.least_price, scene, task), least)
        self.assertEqual(same_twice(self, prices.least_deeds, scene, task), slow.price(lambda deed, price: 1))
        for k in range(len(scene[5])):
            without = slow.price(lambda deed, price: None if deed == k else price)
            self.assertEqual(same_twice(self, prices.price_without, scene, task, k), without)
        plan = same_twice(self, prices.cheapest_plan, scene, task)
        self.assertEqual(plan is None, least is None)
        if plan is not None:
            self.assertIsNone(judge_plan(scene, task, plan))
            self.assertEqual(same_twice(self, prices.plan_price, scene, plan), least)
        for most in (0, 1, 10 ** 30) if least is None else (0, max(least - 1, 0), least, least + 1, 10 ** 30):
            paper = same_twice(self, prices.price_paper, scene, task, most)
            self.assertEqual(paper is None, least is not None and least < most)
            if paper is not None:
                self.assertIs(type(paper), tuple)
                self.assertIsNone(slow_fault(slow, most, paper))
                self.assertIsNone(same_twice(self, prices.judge_price_paper, scene, task, most, paper))
        return least

    def test_z(self):
        self.assertEqual(self.check(Z_SCENE, Z_TASK), 5)
        self.assertEqual(prices.least_deeds(Z_SCENE, Z_TASK), 2)
        self.assertIsNone(prices.price_without(Z_SCENE, Z_TASK, 0))
        self.assertIsNone(self.check(Z_WALLED, Z_TASK))
        self.assertEqual(self.check(Z_SCENE, (at(1), LAID, (("thing", 0, 1),))), 0)
        self.assertEqual(self.check(Z_SCENE, (at(1), HELD, (("thing", 0, 1),))), 2)
        self.assertEqual(prices.price_without(Z_SCENE, (at(1), HELD, (("thing", 0, 1),)), 0), 2)
        self.assertEqual(self.check(Z_SCENE, (at(1), LIES, ())), 0)

    def test_plan_price(self):
        for plan, price in ((Z_PLAN, 5), ((), 0), ((("deed", 1),) * 3, 6), ((("go", at(77)), ("deed", 0)), 3)):
            self.assertEqual(same_twice(self, prices.plan_price, Z_SCENE, plan), price)

    def test_two_ways(self):
        self.assertEqual(self.check(TWO_WAYS, Z_TASK), 4)
        self.assertEqual(prices.least_deeds(TWO_WAYS, Z_TASK), 2)
        for number, price in ((0, None), (1, 4), (2, 5), (3, 5), (4, 5)):
            self.assertEqual(prices.price_without(TWO_WAYS, Z_TASK, number), price)
        dear = replaced(TWO_WAYS, (5, 3, 6), 9)
        self.assertEqual(self.check(dear, Z_TASK), 5)
        self.assertEqual(prices.price_without(dear, Z_TASK, 1), 12)
        equal = replaced(TWO_WAYS, (5, 3, 6), 2)
        self.assertEqual(self.check(equal, Z_TASK), 5)
        self.assertEqual(prices.price_without(equal, Z_TASK, 1), 5)

    def test_nought_and_great_prices(self):
        free = replaced(replaced(Z_SCENE, (5, 0, 6), 0), (5, 1, 4), 0)
        self.assertEqual(self.check(free, Z_TASK), 0)
        great = replaced(replaced(Z_SCENE, (5, 0, 6), 10 ** 18), (5, 1, 4), 10 ** 18)
        self.assertEqual(self.check(great, Z_TASK), 2 * 10 ** 18)
        mixed = replaced(TWO_WAYS, (5, 1, 4), 10 ** 18)
        self.assertEqual(self.check(mixed, Z_TASK), 4)

    def test_turns(self):
        self.check(TURN_SCENE, TURN_TASK)
        self.assertEqual(self.check(TURN_SCENE, (at(0), ((1,), (1,)), (("mover", 0, (0, 0)),))), 0)

    def test_as_the_second_opinion(self):
        seen = {}
        for scene, task in helper.rail_tasks(341, 24) + helper.rail_tasks(342, 2, 2):
            least = self.check(scene, task)
            seen[least is None or least > 0] = seen.get(least is None or least > 0, 0) + 1
        self.assertGreater(seen[True], 8)

    def test_too_great(self):
        great = ((many_modes(24), GREAT_TASK), (great_scene(30), (at(0), ((), (0,)), ())))
        for scene, task in great:
            for function, rest in ((prices.least_price, ()), (prices.least_deeds, ()), (prices.cheapest_plan, ()),
                                   (prices.price_without, (0,)), (prices.price_paper, (0,)),
                                   (prices.judge_price_paper, (0, ())), (prices.judge_price_paper, (0, 7))):
                self.assertRaises(TooGreat, function, scene, task, *rest)
            self.assertEqual(prices.plan_price(scene, (("go", at(0)),)), 0)
        for scene, task in ((many_modes(23), GREAT_TASK), (great_scene(29), (at(0), ((), (0,)), ()))):
            self.assertEqual(prices.least_price(scene, task), 0)
            self.assertEqual(prices.least_deeds(scene, task), 0)
            self.assertEqual(prices.price_without(scene, task, 0), 0)
            self.assertEqual(prices.cheapest_plan(scene, task), ())
            self.assertIsNone(prices.price_paper(scene, task, 1))
            paper = prices.price_paper(scene, task, 0)
            self.assertIsNone(prices.judge_price_paper(scene, task, 0, paper))


class JudgeTest(unittest.TestCase):

    def setUp(self):
        self.slow = helper.SlowNodes(Z_SCENE, Z_TASK)
        self.paper = prices.price_paper(Z_SCENE, Z_TASK, 5)

    def judged(self, n, value):
        told = same_twice(self, prices.judge_price_paper, Z_SCENE, Z_TASK, n, value)
        self.assertEqual(told, slow_fault(self.slow, n, value), value)
        return told

    def test_form(self):
        for value in (list(self.paper), self.paper[0]):
            self.assertEqual(prices.judge_price_paper(Z_SCENE, Z_TASK, 0, value), ("form",))
        for value in ANYTHING + (helper.nested(40),):
            if value != ():
                told = same_twice(self, prices.judge_price_paper, Z_SCENE, Z_TASK, 0, value)
                self.assertEqual(told, ("form",), value)
            self.assertEqual(prices.judge_price_paper(Z_SCENE, Z_TASK, 0, self.paper + (value,)), ("form",), value)
        mode, cell, _ = self.paper[0]
        for part in ((mode, cell), (mode, cell, -1), (mode, cell, True), (mode, cell, None), (mode, cell, (0, 1)),
                     (mode, cell, 0, 0), [mode, cell, 0], (mode, list(cell), 0), (mode, cell[1:], 0), (cell, mode, 0),
                     (mode, cell[1:] + (True,), 0), (((False,), (0,)), cell, 0), (((2,), (0,)), cell, 0), (0, cell, 0)):
            self.assertEqual(prices.judge_price_paper(Z_SCENE, Z_TASK, 0, (part,)), ("form",), part)

    def test_faults_in_their_sequence(self):
        paper = self.paper
        self.assertEqual(len(paper), 21)
        for n, fault in ((0, None), (4, None), (5, None), (6, ("goal", 7)), (10 ** 18, ("goal", 7))):
            self.assertEqual(self.judged(n, paper), fault)
        self.assertEqual(self.judged(0, ()), ("start",))
        self.assertEqual(self.judged(0, paper[:1] + paper), ("order", 1))
        self.assertEqual(self.judged(0, paper[7:] + paper[:7]), ("order", 14))
        again = (paper[0][0], paper[0][1], 99)
        self.assertEqual(self.judged(0, paper[:1] + (again,) + paper[1:]), ("order", 1))
        no_cell = (LIES, (1, 1, 1, 1), 0)
        self.assertEqual(self.judged(0, paper[:7] + (no_cell,) + paper[7:]), ("node", 7))
        start = paper.index((LIES, self.slow.start[1], 0))
        self.assertEqual(self.judged(0, replaced(paper, (start, 2), 1)), ("start",))
        self.assertEqual(self.judged(0, paper[:start] + paper[start + 1:]), ("start",))
        for k, (mode, cell, number) in enumerate(paper):
            if k != start:
                self.assertEqual(self.judged(5, paper[:k] + paper[k + 1:])[0], "move")
            self.assertEqual(self.judged(5, replaced(paper, (k, 2), number + 1))[0], "start" if k == start else "move")
        lower = tuple((mode, cell, 0) for mode, cell, _ in paper)
        self.assertIsNone(self.judged(0, lower))
        self.assertEqual(self.judged(1, lower), ("goal", 7))
        self.assertEqual(self.judged(4, tuple((mode, cell, min(number, 3)) for mode, cell, number in paper)), ("goal", 7))
        self.assertIsNone(self.judged(3, tuple((mode, cell, min(number, 3)) for mode, cell, number in paper)))

    def test_as_the_second_opinion(self):
        numbers = Numbers(351)
        seen = {}
        for scene, task in helper.rail_tasks(352, 14):
            slow = helper.SlowNodes(scene, task)
            least = slow.least()
            nodes = slow.sort([(mode, cell) for mode in slow.modes for cell in slow.cells])
            for _ in range(8):
                rows = [node + (least[node],) for node in slow.sort(list(least))]
                for _ in range(numbers.below(3)):
                    change = numbers.below(4)
                    at_row = numbers.below(len(rows))
                    if change == 0:
                        rows.insert(at_row, numbers.choice(nodes) + (numbers.below(3),))
                    elif change == 1 and len(rows) > 1:
                        rows.pop(at_row)
                    else:
                        mode, cell, number = rows[at_row]
                        rows[at_row] = (mode, cell, max(0, number + numbers.between(-2, 1)))
                n = (slow.price() or 0) + numbers.between(-1, 1)
                fault = prices.judge_price_paper(scene, task, max(n, 0), tuple(rows))
                self.assertEqual(fault, slow_fault(slow, max(n, 0), tuple(rows)))
                seen[fault and fault[0]] = seen.get(fault and fault[0], 0) + 1
        for word in (None, "order", "move", "goal"):
            self.assertGreater(seen.get(word, 0), 1, seen)
