import time
import unittest
from fractions import Fraction

from sweptfree import ways
from sweptfree.legs import leg_fault
from tests import helper
from tests.helper import ANYTHING, NO_FRACTIONS, Numbers, as_pair, same_twice
from tests.test_legs import LIMITS, Q, at

AROUND = (at(0, 0), at(0, 9), at(9, 9))
THROUGH = (at(0, 0), at(5, 5))


def slow_way_fault(limits, contacts, way):
    """The first fault of what has the form of a way."""
    for n, standing in enumerate(way):
        if not all(low <= x <= high for (low, high), x in zip(limits, helper.numbers_of(standing))):
            return ("limits", n)
    for n in range(max(1, len(way) - 1)):
        fault = leg_fault(limits, contacts, way[n], way[min(n + 1, len(way) - 1)])
        if fault is not None:
            return ("bars", n) + fault[1:]
    return None


class WaysTest(unittest.TestCase):

    def test_form(self):
        judge = ways.judge_way
        for value in ANYTHING + (helper.nested(40),):
            self.assertEqual(same_twice(self, judge, LIMITS, [Q], value), ("form",), value)
            is_standing = value == ((0, 1), (1, 1))
            self.assertEqual(judge(LIMITS, [Q], AROUND + (value,)) != ("form",), is_standing, value)
            self.assertEqual(judge(LIMITS, [Q], (value,) + AROUND) != ("form",), is_standing, value)
        for odd in NO_FRACTIONS:
            self.assertEqual(judge(LIMITS, [Q], (at(0, 0), ((0, 1), odd))), ("form",), odd)
            self.assertEqual(judge(LIMITS, [Q], ((odd, (0, 1)),)), ("form",), odd)
        for value in ((), [], list(AROUND), AROUND + ([(0, 1), (0, 1)],), (at(0),), (at(0, 0, 0),), at(0, 0), (at(99, 0), 7)):
            self.assertEqual(judge(LIMITS, [Q], value), ("form",), value)

    def test_limits_ahead_of_bars(self):
        judge = ways.judge_way
        for way, fault in (
                (AROUND, None), ((at(0, 0),), None), ((at(3, 3),), None), ((at(5, 5),), ("bars", 0, 0, (0, 1), (1, 1))),
                ((at(11, 5),), ("limits", 0)), (THROUGH, ("bars", 0, 0, (3, 5), (1, 1))),
                (THROUGH + (at(0, 11),), ("limits", 2)), (THROUGH + (at(0, 11), at(-1, 0)), ("limits", 2)),
                (AROUND + (at(9, 5), at(1, 5)), ("bars", 3, 0, (1, 4), (3, 4))),
                (AROUND + (at(9, 9), at(9, 9)), None), (AROUND + (at(Fraction(-1, 10 ** 9), 9),), ("limits", 3))):
            self.assertEqual(same_twice(self, judge, LIMITS, [Q], way), fault, way)
            self.assertEqual(judge(list(LIMITS), (Q,), way), fault)
        wall = (((-8, 1, 0), 1),)
        self.assertEqual(judge(LIMITS, [wall, Q], AROUND), ("bars", 1, 0, (8, 9), (1, 1)))
        self.assertEqual(judge(LIMITS, [Q, wall], AROUND), ("bars", 1, 1, (8, 9), (1, 1)))
        self.assertEqual(judge(LIMITS, [Q, ()], AROUND), ("bars", 0, 1, (0, 1), (1, 1)))
        self.assertIsNone(judge(LIMITS, [], THROUGH))

    def test_clear_ways(self):
        for way, clear in ((AROUND, True), (THROUGH, False), ((at(0, 3), at(9, 3)), False), ((at(3, 3),), False),
                           ((at(2, 2),), True), ((at(11, 2),), False), ((at(0, 0), at(0, 11), at(0, 0)), False),
                           ((at(0, 2), at(9, 2), at(9, 9)), True), ((at(5, 2), at(5, 3), at(5, 2)), False)):
            self.assertIs(same_twice(self, ways.is_clear_way, LIMITS, [Q], way), clear, way)
        self.assertIs(ways.is_clear_way(LIMITS, [], THROUGH), True)
        self.assertIs(ways.is_clear_way(LIMITS, [()], AROUND), False)

    def check_lean(self, limits, contacts, way):
        """Whether a free way is lean, and a lean one that comes of it."""
        is_lean = same_twice(self, ways.is_lean_way, limits, contacts, way)
        can_go = [k for k in range(1, len(way) - 1)
                  if slow_way_fault(limits, contacts, way[:k] + way[k + 1:]) is None]
        self.assertIs(is_lean, not can_go)
        lean = same_twice(self, ways.made_lean, limits, contacts, way)
        self.assertIs(type(lean), tuple)
        self.assertIsNone(slow_way_fault(limits, contacts, lean))
        self.assertIs(ways.is_lean_way(limits, contacts, lean), True)
        self.assertEqual((lean[0], lean[-1]), (way[0], way[-1]))
        rest = iter(way)
        self.assertTrue(all(any(standing == other for other in rest) for standing in lean), "in the sequence")
        if is_lean:
            self.assertEqual(lean, way)
        return lean

    def test_lean_ways(self):
        for way, lean in ((AROUND, AROUND), ((at(1, 1),), (at(1, 1),)), ((at(1, 1), at(2, 1)), (at(1, 1), at(2, 1))),
                          ((at(1, 1), at(1, 1)), (at(1, 1), at(1, 1))), ((at(0, 0),) + AROUND, None),
                          ((at(1, 1), at(9, 0), at(1, 1)), (at(1, 1), at(1, 1))),
                          ((at(0, 0), at(0, 5), at(0, 9), at(5, 9), at(9, 9)), None),
                          ((at(0, 0), at(0, 7), at(0, 9), at(3, 9), at(9, 9)), None)):
            found = self.check_lean(LIMITS, [Q], way)
            if lean is not None:
                self.assertEqual(found, lean)
        self.assertEqual(self.check_lean(LIMITS, [], AROUND + AROUND), (at(0, 0), at(9, 9)))
        self.assertIs(ways.is_lean_way(LIMITS, [Q], (at(0, 0),) + AROUND), False)

    def test_lean_in_several_rounds(self):
        """On the way there and back the standing ahead can go only behind the one that lies behind it."""
        way = (at(0, 0), at(0, 9), at(9, 9), at(0, 9), at(0, 0))
        self.assertIs(ways.is_lean_way(LIMITS, [Q], way), False)
        self.assertEqual(self.check_lean(LIMITS, [Q], way), (at(0, 0), at(0, 0)))
        long_way = (at(0, 0), at(0, 9), at(9, 9), at(9, 0), at(9, 9), at(0, 9), at(0, 0))
        self.assertEqual(self.check_lean(LIMITS, [Q], long_way), (at(0, 0), at(0, 0)))

    def test_as_the_second_opinion(self):
        numbers = Numbers(221)
        seen = {}
        for _ in range(300):
            sliders = numbers.between(1, 3)
            limits = ((-7, 7),) * sliders
            contacts = [helper.some_contact(numbers, sliders) for _ in range(numbers.below(4))]
            contacts = [contact for contact in contacts if len(contact) > 2]
            way = tuple(helper.near_standing(numbers, sliders, numbers.choice((2, 4))) for _ in range(numbers.between(1, 6)))
            fault = same_twice(self, ways.judge_way, limits, contacts, way)
            self.assertEqual(fault, slow_way_fault(limits, contacts, way))
            clear = ways.is_clear_way(limits, contacts, way)
            if clear:
                self.assertIsNone(fault)
            if fault is None:
                free = self.check_lean(limits, contacts, way)
                seen[len(way) - len(free)] = seen.get(len(way) - len(free), 0) + 1
            seen[fault and fault[0], clear] = seen.get((fault and fault[0], clear), 0) + 1
        for kind in (("limits", False), ("bars", False), (None, True), (None, False), 0, 1, 2):
            self.assertGreater(seen.get(kind, 0), 4, seen)

    def test_long_ways(self):
        """400 standings and 200 contacts of 24 pairs, with great numbers, in good time."""
        numbers = Numbers(222)
        limits = ((-10 ** 9, 10 ** 9),) * 3
        contacts = []
        for _ in range(200):
            forms = {helper.some_form(numbers, 3, 10 ** 20) for _ in range(23)}
            contacts.append(tuple(sorted([(form, numbers.choice((-1, 1))) for form in forms] + [((-10 ** 9, 1, 0, 0), 1)])))
        way = tuple(tuple(as_pair(Fraction(numbers.between(-10 ** 40, 10 ** 40), 10 ** 32 + numbers.below(10 ** 9)))
                          for _ in range(3)) for _ in range(400))
        before = time.process_time()
        self.assertIsNone(ways.judge_way(limits, contacts, way))
        self.assertEqual(len(ways.made_lean(limits, contacts, way)), 2)
        self.assertIs(ways.is_lean_way(limits, contacts, way), False)
        self.assertIs(ways.is_clear_way(limits, contacts, way), True)
        self.assertLess(time.process_time() - before, 60)
