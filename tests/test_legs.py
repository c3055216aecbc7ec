import unittest
from fractions import Fraction

from sweptfree import legs
from tests import helper
from tests.helper import Numbers, as_fraction, as_pair, same_twice

LIMITS = ((0, 10), (0, 10))
Q = (((-7, 0, 1), -1), ((-7, 1, 0), -1), ((-3, 0, 1), 1), ((-3, 1, 0), 1))
TINY = Fraction(1, 10 ** 15)


def at(*numbers):
    return tuple(as_pair(Fraction(n)) for n in numbers)


def moment_standing(q, r, t):
    return [a + (b - a) * t for a, b in zip(helper.numbers_of(q), helper.numbers_of(r))]


class LegsTest(unittest.TestCase):

    def check(self, contact, q, r):
        """What is told of a contact on a leg, held against all moments at which something can change."""
        slack = same_twice(self, legs.slack_on, contact, q, r)
        span = same_twice(self, legs.span, contact, q, r)
        if contact == ():
            self.assertEqual((slack, span), (None, ((0, 1), (1, 1))))
            return slack, span
        moments = helper.turning_moments(contact, q, r)
        slacks = [helper.slow_slack(contact, moment_standing(q, r, t)) for t in moments]
        self.assertEqual(slack, as_pair(min(slacks)))
        barred = [t for t, told in zip(moments, slacks) if told < 0]
        between = [(a, b) for a, b in zip(moments, moments[1:])
                   if helper.slow_slack(contact, moment_standing(q, r, (a + b) / 2)) < 0]
        if span is None:
            self.assertEqual((barred, between), ([], []))
        else:
            low, high = as_fraction(span[0]), as_fraction(span[1])
            self.assertLess(low, high)
            self.assertEqual((low, high), (between[0][0], between[-1][1]))
        for standing in (q, r):
            self.assertEqual(same_twice(self, legs.slack_at, contact, standing),
                             as_pair(helper.slow_slack(contact, helper.numbers_of(standing))))
        return slack, span

    def test_the_document(self):
        self.assertEqual(self.check(Q, at(0, 0), at(10, 10)), ((-2, 1), ((3, 10), (7, 10))))
        self.assertEqual(self.check(Q, at(0, 2), at(10, 2)), ((1, 1), None))
        self.assertEqual(self.check(Q, at(0, 5), at(5, 0)), ((1, 2), None))

    def test_edges(self):
        for q, r, slack, span in (
                (at(5, 5), at(5, 5), -2, (0, 1)), (at(3, 5), at(3, 5), 0, None), (at(1, 1), at(1, 1), 2, None),
                (at(5, 5), at(10, 5), -2, (0, Fraction(2, 5))), (at(0, 5), at(5, 5), -2, (Fraction(3, 5), 1)),
                (at(4, 4), at(6, 6), -2, (0, 1)), (at(0, 3), at(10, 3), 0, None), (at(0, 0), at(3, 3), 0, None),
                (at(7, 7), at(10, 10), 0, None), (at(0, 6), at(6, 0), 0, None), (at(3, 5), at(7, 5), -2, (0, 1)),
                (at(3, 5), at(5, 5), -2, (0, 1)), (at(5, 5), at(3, 5), -2, (0, 1)), (at(3, 5), at(0, 5), 0, None),
                (at(0, 6 + TINY), at(6 + TINY, 0), -TINY / 2,
                 (3 / (6 + TINY), 1 - 3 / (6 + TINY))),
                (at(5, 7), at(5, 7 - TINY), -TINY, (0, 1)), (at(5, 2), at(5, 8), -2, (Fraction(1, 6), Fraction(5, 6))),
                (at(-5, 5), at(15, 5), -2, (Fraction(2, 5), Fraction(3, 5)))):
            found = self.check(Q, q, r)
            span = span and tuple(as_pair(Fraction(t)) for t in span)
            self.assertEqual(found, (as_pair(Fraction(slack)), span), (q, r))
            turned = span and tuple(as_pair(1 - as_fraction(t)) for t in reversed(span))
            self.assertEqual(self.check(Q, r, q), (as_pair(Fraction(slack)), turned))

    def test_contact_without_pairs(self):
        self.assertIsNone(same_twice(self, legs.slack_at, (), at(1, 2)))
        for q, r in ((at(0), at(1)), (at(2, 2), at(2, 2)), (at(1, 2, 3), at(0, 0, 0))):
            self.check((), q, r)
            limits = ((0, 10),) * len(q)
            self.assertEqual(legs.leg_fault(limits, [Q, ()][len(q) != 2:], q, r),
                             ("bars", 1 if len(q) == 2 else 0, (0, 1), (1, 1)))
            self.assertIs(legs.is_clear_leg(limits, [()], q, r), False)

    def test_equal_pairs_and_both_sides(self):
        """Two pairs that are equal at a moment, a form on both sides, parallel forms."""
        cross = (((-5, 1, 0), 1), ((-5, 0, 1), 1))
        self.assertEqual(self.check(cross, at(0, 10), at(10, 0)), ((0, 1), None))
        self.assertEqual(self.check(cross, at(0, 11), at(11, 0)),
                         (as_pair(Fraction(-1, 2)), (as_pair(Fraction(5, 11)), as_pair(Fraction(6, 11)))))
        both = (((-5, 1, 0), -1), ((-5, 1, 0), 1))
        self.assertEqual(self.check(both, at(0, 0), at(10, 0)), ((0, 1), None))
        self.assertEqual(self.check(both, at(0, 0), at(4, 0)), ((1, 1), None))
        band = (((-6, 1, 0), -1), ((-4, 1, 0), 1), ((-8, 2, 1), 1))
        self.check(band, at(0, 0), at(10, 10))
        self.assertEqual(legs.slack_at(both, at(5, 0)), (0, 1))
        self.assertEqual(legs.slack_at(both, at(Fraction(9, 2), 0)), (1, 2))

    def test_standing_at(self):
        q, r = at(0, Fraction(1, 3), -5), at(10, Fraction(-1, 2), -5)
        for t in (Fraction(0), Fraction(1), Fraction(1, 2), Fraction(2, 7), TINY):
            found = same_twice(self, legs.standing_at, q, r, as_pair(t))
            self.assertEqual(found, tuple(as_pair(x) for x in moment_standing(q, r, t)))
        self.assertEqual(legs.standing_at(q, r, (0, 1)), q)
        self.assertEqual(legs.standing_at(q, r, (1, 1)), r)

    def test_leg_fault(self):
        wall = (((-5, 1, 0), 1),)
        for contacts, q, r, fault in (
                ([], at(0, 0), at(10, 10), None), ([Q], at(0, 2), at(10, 2), None), ([Q], at(0, 3), at(10, 3), None),
                ([Q, wall], at(0, 2), at(10, 2), ("bars", 1, (1, 2), (1, 1))),
                ([wall, Q], at(0, 5), at(10, 5), ("bars", 0, (1, 2), (1, 1))),
                ([Q, wall], at(0, 5), at(10, 5), ("bars", 0, (3, 10), (7, 10))),
                ([Q, wall], at(-1, 5), at(10, 5), ("limits", 0)), ([Q, wall], at(0, 5), at(10, 11), ("limits", 1)),
                ([()], at(0, -TINY), at(10 + TINY, 5), ("limits", 0)), ([()], at(0, 0), at(10 + TINY, 5), ("limits", 1)),
                ((Q, wall), at(5, 2), at(5, 1), None), ((), at(0, 0), at(0, 0), None)):
            self.assertEqual(same_twice(self, legs.leg_fault, LIMITS, contacts, q, r), fault)
            slacks = [legs.slack_on(contact, q, r) for contact in contacts]
            self.assertEqual(fault is None or fault[0] == "limits",
                             all(slack is not None and slack[0] >= 0 for slack in slacks) or fault[:1] == ("limits",))

    def test_clear_legs(self):
        for contacts, q, r, clear in (
                ([], at(0, 0), at(10, 10), True), ([Q], at(0, 2), at(10, 2), True), ([Q], at(0, 3), at(10, 3), False),
                ([Q], at(0, 3 - TINY), at(10, 3 - TINY), True), ([Q], at(0, 6), at(6, 0), False),
                ([Q], at(0, 6 - TINY), at(6 - TINY, 0), True), ([Q], at(0, 5), at(3, 5), False),
                ([Q], at(0, 2), at(10, 11), False), ([Q], at(-TINY, 2), at(10, 2), False), ([Q], at(1, 1), at(1, 1), True),
                ([], at(1, 1), at(1, 11), False), ([Q, ()], at(1, 1), at(1, 1), False),
                ([Q, (((0, 1, 0), -1),)], at(0, 1), at(1, 1), False)):
            self.assertIs(same_twice(self, legs.is_clear_leg, LIMITS, contacts, q, r), clear, (contacts, q, r))

    def test_as_the_second_opinion(self):
        numbers = Numbers(211)
        seen = {}
        for _ in range(500):
            sliders = numbers.between(1, 3)
            contact = helper.some_contact(numbers, sliders)
            q, r = (helper.near_standing(numbers, sliders) for _ in range(2))
            if numbers.below(6) == 0:
                r = q
            slack, span = self.check(contact, q, r)
            kind = (slack is None or helper.sign(slack[0]), span is None, span and (span[0] == (0, 1), span[1] == (1, 1)))
            seen[kind] = seen.get(kind, 0) + 1
            limits = ((-9, 9),) * sliders
            free = span is None
            self.assertEqual(legs.leg_fault(limits, [contact], q, r), None if free else ("bars", 0) + span)
            self.assertIs(legs.is_clear_leg(limits, [contact], q, r), slack is not None and slack[0] > 0)
        for kind in ((1, True, None), (0, True, None), (-1, False, (True, True)), (-1, False, (False, True)),
                     (-1, False, (True, False)), (-1, False, (False, False))):
            self.assertGreater(seen.get(kind, 0), 4, seen)

    def test_great_numbers(self):
        numbers = Numbers(212)
        for _ in range(20):
            contact = tuple(sorted({(helper.some_form(numbers, 3, 10 ** 20), numbers.choice((-1, 1)))
                                    for _ in range(24)}))
            q, r = (tuple(as_pair(Fraction(numbers.between(-10 ** 20, 10 ** 20), numbers.between(1, 10 ** 40)))
                          for _ in range(3)) for _ in range(2))
            slack, span = legs.slack_on(contact, q, r), legs.span(contact, q, r)
            self.assertEqual(span is None, slack[0] >= 0)
            for t in (Fraction(0), Fraction(1), Fraction(1, 3)):
                self.assertLessEqual(as_fraction(slack), helper.slow_slack(contact, moment_standing(q, r, t)))
