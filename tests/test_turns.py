import unittest
from fractions import Fraction

from sweptfree import turns
from sweptfree.errors import TooGreat
from sweptfree.legs import is_clear_leg, slack_on
from sweptfree.ways import is_clear_way
from tests import helper
from tests.helper import Numbers, as_fraction, as_pair, same_twice
from tests.test_legs import LIMITS, Q, TINY, at


def slow_stretch(contact, q, r):
    steps = [abs(b - a) for a, b in zip(helper.numbers_of(q), helper.numbers_of(r))]
    return max([sum((abs(c) * step for c, step in zip(form[1:], steps)), Fraction(0)) for form, _ in contact] + [0])


def slow_paces(contacts, q, r):
    """The paces, by counting on from 1."""
    many = 1
    while any(many * as_fraction(slack_on(contact, q, r)) <= slow_stretch(contact, q, r) for contact in contacts):
        many += 1
    return many


class TurnsTest(unittest.TestCase):

    def check(self, limits, contacts, way):
        """A clear way in turns that comes of a clear one."""
        found = same_twice(self, turns.in_turns, limits, contacts, way)
        self.assertIs(type(found), tuple)
        self.assertEqual((found[0], found[-1]), (way[0], way[-1]))
        for q, r in zip(found, found[1:]):
            self.assertLessEqual(len([1 for x, y in zip(q, r) if x != y]), 1)
            self.assertIs(is_clear_leg(limits, contacts, q, r), True)
        self.assertIs(is_clear_way(limits, contacts, found), True)
        self.assertIs(turns.is_in_turns(found), True)
        return found

    def test_the_document(self):
        for q, r, stretch, paces in ((at(0, 2), at(10, 2), 10, 11), (at(0, 5), at(5, 0), 5, 11),
                                     (at(2, 2), at(2, 2), 0, 1), (at(0, 0), at(0, 2), 2, 1), (at(0, 0), at(2, 2), 2, 3)):
            self.assertEqual(same_twice(self, turns.stretch_on, Q, q, r), (stretch, 1))
            self.assertEqual(same_twice(self, turns.paces_of, [Q], q, r), paces)
            self.assertEqual(slow_paces([Q], q, r), paces)
        self.assertEqual(len(self.check(LIMITS, [Q], (at(0, 5), at(5, 0)))), 23)

    def test_stretches(self):
        self.assertEqual(turns.stretch_on((), at(0, 0), at(5, 5)), (0, 1))
        contact = (((0, 1, -3), 1), ((9, 2, 2), -1))
        for q, r, stretch in ((at(0, 0), at(1, 1), (4, 1)), (at(1, 1), at(0, 0), (4, 1)), (at(0, 0), at(-5, 1), (12, 1)),
                              (at(Fraction(1, 2), 0), at(0, Fraction(1, 3)), (5, 3)), (at(7, 7), at(7, 7), (0, 1))):
            self.assertEqual(same_twice(self, turns.stretch_on, contact, q, r), stretch)

    def test_paces(self):
        self.assertEqual(turns.paces_of([], at(0, 0), at(10, 10)), 1)
        wall = (((-5, 1), 1),)
        for end, paces in ((4, 5), (Fraction(9, 2), 10), (0, 1), (2, 1), (Fraction(5, 2), 2), (Fraction(5, 2) - TINY, 1),
                           (3, 2)):
            self.assertEqual(turns.paces_of([wall], at(0), at(end)), paces, end)
            self.assertEqual(turns.paces_of([wall, (((-9, 1), 1),)], at(0), at(end)), paces, end)
            self.assertEqual(turns.paces_of(((((-9, 1), 1),), wall), at(0), at(end)), paces, end)

    def test_is_in_turns(self):
        for way, told in (((at(0, 0),), True), ((at(0, 0), at(0, 0)), True), ((at(0, 0), at(1, 0), at(1, 5)), True),
                          ((at(0, 0), at(1, 1)), False), ((at(0, 0), at(1, 0), at(2, TINY)), False),
                          ((at(0, 0, 0), at(0, 0, 1)), True), ((at(0, 0, 0), at(1, 0, 1)), False), ((at(3),), True),
                          ((at(3), at(4), at(-1)), True)):
            self.assertIs(same_twice(self, turns.is_in_turns, way), told)

    def test_ways_in_turns(self):
        for way in ((at(0, 0),), (at(2, 2), at(2, 2)), (at(0, 0), at(0, 9), at(9, 9)), (at(0, 5), at(5, 0), at(10, 2)),
                    (at(0, 0), at(2, 2), at(0, 0)), (at(0, 8), at(2, 8), at(4, Fraction(15, 2)), at(10, 10))):
            self.check(LIMITS, [Q], way)
            self.check(LIMITS, [], way)
            self.check(list(LIMITS), (Q,), way)

    def test_too_great(self):
        """The wall is at 5: from 0 to where n paces are just needed, also in turns already."""
        wall = (((-5, 1, 0), 1),)
        limits = ((0, 10), (0, 10))
        for many, great in ((399, False), (400, False), (401, True), (402, True)):
            end = 5 - Fraction(5, many)
            for height in (0, 1):
                way = (at(0, 0), at(end, height))
                self.assertEqual(turns.paces_of([wall], *way), many)
                for told in (way, (at(0, 0), at(0, 0)) + way, way + (at(0, 0),)):
                    if great:
                        self.assertRaises(TooGreat, turns.in_turns, limits, [wall], told)
                    else:
                        self.check(limits, [wall], told)
        self.assertEqual(turns.paces_of([wall], at(0, 0), at(5 - TINY, 0)), 5 * 10 ** 15)

    def test_as_the_second_opinion(self):
        numbers = Numbers(231)
        seen = {}
        for _ in range(600):
            sliders = numbers.between(1, 3)
            limits = ((-9, 9),) * sliders
            contacts = [helper.some_contact(numbers, sliders) for _ in range(numbers.below(4))]
            contacts = [contact for contact in contacts if len(contact) > 1]
            way = tuple(helper.near_standing(numbers, sliders) for _ in range(numbers.between(1, 4)))
            if not is_clear_way(limits, contacts, way):
                continue
            paces = [turns.paces_of(contacts, q, r) for q, r in list(zip(way, way[1:])) or [way * 2]]
            for many, (q, r) in zip(paces, zip(way, way[1:])):
                self.assertEqual(many, slow_paces(contacts, q, r))
                for contact in contacts:
                    self.assertEqual(turns.stretch_on(contact, q, r), as_pair(slow_stretch(contact, q, r) + Fraction(0)))
            if max(paces) > 400:
                self.assertRaises(TooGreat, turns.in_turns, limits, contacts, way)
            else:
                self.check(limits, contacts, way)
            kind = max(paces) > 1
            seen[kind] = seen.get(kind, 0) + 1
        self.assertGreater(min(seen[True], seen[False]), 30, seen)
