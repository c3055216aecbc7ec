import unittest
from fractions import Fraction
from math import gcd

from sweptfree import bars
from tests import helper
from tests.helper import (BOX, D_SCENE, R_MODES, R_SCENE, SQUARE, WEDGE, Y_SCENE, Numbers, as_pair, replaced, same_twice,
                          sign, slow_value)

Y_CONTACT = (((-6, 1, 0), -1), ((-4, 0, 1), -1), ((-2, 1, 0), 1), ((2, 0, 1), 1))
Y_MODE = ((), (0,))


def slow_form(numbers):
    """The form and the side of a tuple of integers, by division until nothing is left to divide."""
    divisor = 0
    for n in numbers:
        divisor = gcd(divisor, n)
    first = [n for n in numbers[1:] if n][0]
    side = 1 if first > 0 else -1
    return (tuple(side * n // divisor for n in numbers), side)


def slow_piece_contact(one, other, away):
    """The contact of two pieces, whether they can touch, whether they can meet; away tells w at a row of numbers."""
    corners = helper.slow_hull([(x - u, y - v) for x, y in other for u, v in one])
    many = len(away) - 1
    pairs, can_touch, can_meet = set(), True, True
    for u, v in helper.sides_of(corners):
        values = [(v[0] - u[0]) * (w[1] - u[1]) - (v[1] - u[1]) * (w[0] - u[0]) for w in away]
        numbers = [int(values[0])] + [int(values[k + 1] - values[0]) for k in range(many)]
        if any(numbers[1:]):
            pairs.add(slow_form(numbers))
        else:
            can_touch = can_touch and numbers[0] >= 0
            can_meet = can_meet and numbers[0] > 0
    return (tuple(sorted(pairs)), can_touch, can_meet)


def steps(scene):
    """Nought, and for each slider the standing with 1 for it alone."""
    many = len(scene[0])
    return [(0,) * many] + [(0,) * k + (1,) + (0,) * (many - k - 1) for k in range(many)]


def slow_contacts(scene, mode, one, other):
    away = []
    for q in steps(scene):
        p, r = helper.slow_place(scene, mode, one, q), helper.slow_place(scene, mode, other, q)
        away.append((p[0] - r[0], p[1] - r[1]))
    return told_both([slow_piece_contact(a, b, away) for a in helper.slow_shape(scene, mode, one)
                      for b in helper.slow_shape(scene, mode, other)])


def told_both(rows):
    return (sorted({row[0] for row in rows if row[1]}), sorted({row[0] for row in rows if row[2]}))


def all_pairs(scene):
    marks = helper.slow_marks(scene)
    return [(one, other) for one in marks for other in marks if one < other]


class FormsTest(unittest.TestCase):

    def test_made_form(self):
        for numbers, made in (((-6, 0, -4), ((3, 0, 2), -1)), ((6, 0, 4), ((3, 0, 2), 1)), ((0, 5), ((0, 1), 1)),
                              ((0, -5), ((0, 1), -1)), ((7, -1, 3), ((-7, 1, -3), -1)), ((4, 6, -10), ((2, 3, -5), 1)),
                              ((0, 0, 0, -9), ((0, 0, 0, 1), -1)), ((10 ** 20, 2, 0, 0), ((5 * 10 ** 19, 1, 0, 0), 1)),
                              ((-3, 2), ((-3, 2), 1)), ((5, 0, 7), ((5, 0, 7), 1))):
            self.assertEqual(same_twice(self, bars.made_form, numbers), made)
        numbers = Numbers(81)
        for _ in range(300):
            row = tuple(numbers.between(-9, 9) * 12 for _ in range(numbers.between(2, 4)))
            if any(row[1:]):
                self.assertEqual(bars.made_form(row), slow_form(row))

    def test_values_and_signs(self):
        self.assertEqual(bars.form_value((-4, 1, 1), ((1, 2), (1, 3))), (-19, 6))
        self.assertEqual(bars.form_sign((-4, 1, 1), ((1, 2), (7, 2))), 0)
        numbers = Numbers(82)
        for _ in range(300):
            many = numbers.between(1, 3)
            size = numbers.choice((3, 10 ** 20))
            form = tuple(numbers.between(-size, size) for _ in range(many + 1))
            q = tuple(Fraction(numbers.between(-size, size), numbers.between(1, size)) for _ in range(many))
            standing = tuple(as_pair(x) for x in q)
            self.assertEqual(same_twice(self, bars.form_value, form, standing), as_pair(slow_value(form, q)))
            self.assertEqual(same_twice(self, bars.form_sign, form, standing), sign(slow_value(form, q)))

    def test_bars_and_apart(self):
        for standing, kept, crossed in ((((3, 1), (3, 1)), True, False), (((3, 1), (4, 1)), False, False),
                                        (((3, 1), (5, 1)), False, True), (((2, 1), (4, 1)), False, False),
                                        (((0, 1), (0, 1)), False, True), (((6, 1), (9, 1)), False, True)):
            self.assertIs(same_twice(self, bars.bars_at, Y_CONTACT, standing), kept)
            self.assertIs(same_twice(self, bars.apart_at, Y_CONTACT, standing), crossed)
        self.assertIs(bars.bars_at((), ((1, 1),)), True)
        self.assertIs(bars.apart_at((), ((1, 1),)), False)
        both = (((-1, 1), -1), ((-1, 1), 1))
        for x, crossed in ((0, True), (1, False), (2, True)):
            self.assertIs(bars.bars_at(both, ((x, 1),)), False)
            self.assertIs(bars.apart_at(both, ((x, 1),)), crossed)

    def test_forms_in(self):
        self.assertEqual(same_twice(self, bars.forms_in, []), [])
        self.assertEqual(same_twice(self, bars.forms_in, [()]), [])
        self.assertEqual(same_twice(self, bars.forms_in, [Y_CONTACT, (), Y_CONTACT[1:3], (((-9, 9), 1), ((-9, 9), -1))]),
                         [(-9, 9), (-6, 1, 0), (-4, 0, 1), (-2, 1, 0), (2, 0, 1)])
        self.assertEqual(bars.forms_in((Y_CONTACT,)), bars.forms_in([Y_CONTACT]))

    def test_limit_forms(self):
        self.assertEqual(same_twice(self, bars.limit_forms, D_SCENE), [(-6, 1), (0, 1)])
        self.assertEqual(same_twice(self, bars.limit_forms, Y_SCENE), [(-10, 1, 0), (-6, 0, 1), (0, 0, 1), (0, 1, 0)])
        self.assertEqual(same_twice(self, bars.limit_forms, R_SCENE), [
            (-30, 0, 0, 1), (-20, 1, 0, 0), (-8, 0, 1, 0), (0, 0, 1, 0), (3, 0, 0, 1), (5, 1, 0, 0)])


class ContactsTest(unittest.TestCase):

    def check(self, scene, mode):
        """The contacts of all pairs of bodies, looked at or not, and of the mode, as the second opinion."""
        told = {}
        for one, other in all_pairs(scene):
            found = same_twice(self, bars.contacts_between, scene, mode, one, other)
            self.assertIs(type(found), tuple)
            self.assertEqual(found, slow_contacts(scene, mode, one, other), (scene, mode, one, other))
            told[(one, other)] = found
        looked = helper.slow_looked_at(scene, mode)
        for function, k in ((bars.contacts_of, 0), (bars.bars_of, 1)):
            expected = sorted({contact for pair in looked for contact in told[pair][k]})
            self.assertEqual(same_twice(self, function, scene, mode), expected)
        return told

    def test_told(self):
        self.check(Y_SCENE, Y_MODE)
        self.assertEqual(bars.contacts_of(Y_SCENE, Y_MODE), [Y_CONTACT])
        self.assertEqual(bars.bars_of(Y_SCENE, Y_MODE), [Y_CONTACT])
        d_contact = (((-4, 1), -1), ((-2, 1), 1))
        self.assertEqual(bars.contacts_between(D_SCENE, ((), (0,)), (0, 0), (2, 0)), ([d_contact], [d_contact]))
        bare = replaced(Y_SCENE, (2,), ())
        self.assertEqual(bars.contacts_between(bare, Y_MODE, (0, 0), (2, 0)), ([], []))
        self.assertEqual((bars.contacts_of(bare, Y_MODE), bars.bars_of(bare, Y_MODE)), ([], []))

    def test_constant_edges(self):
        """A square that slides along y = h, over a wall from y = 0 to 2: it can meet, just touch, or do neither."""
        for h, can_touch, can_meet in ((-2, False, False), (-1, True, False), (0, True, True), (1, True, True),
                                       (2, True, False), (3, False, False)):
            scene = (((0, 9),), (("m", ((SQUARE,),), (0, 1), (h, 0)),), (((4, 0), (6, 0), (6, 2), (4, 2)),), (), (), ())
            contact = (((-6, 1), -1), ((-3, 1), 1))
            told = self.check(scene, Y_MODE)[((0, 0), (2, 0))]
            self.assertEqual(told, ([contact] if can_touch else [], [contact] if can_meet else []), h)

    def test_contacts_without_pairs(self):
        """Two movers on the same rail: what they are to each other never changes."""
        for dx, can_touch, can_meet in ((0, True, True), (1, True, False), (2, False, False)):
            scene = (((0, 9),), (("m", ((SQUARE,),), (0, 1), (0, 0)), ("n", ((SQUARE,),), (dx, 1), (0, 0))), (), (), (), ())
            told = self.check(scene, ((), (0, 0)))[((0, 0), (0, 1))]
            self.assertEqual(told, ([()] if can_touch else [], [()] if can_meet else []))
        self.assertEqual(bars.contacts_between(R_SCENE, R_MODES[0], (1, 0), (1, 1)), ([()], []))
        self.assertEqual(bars.contacts_between(R_SCENE, R_MODES[1], (1, 0), (1, 1)), ([], []))

    def test_both_sides_of_one_form(self):
        """A mover that slides across and up at once, beside a wedge with such an edge: one form, both sides."""
        scene = (((0, 9),), (("m", ((WEDGE,),), (0, 1), (0, -2)),), (((2, 0), (4, 0), (2, 4)),), (), (), ())
        self.check(scene, Y_MODE)
        numbers = Numbers(83)
        seen = False
        for _ in range(60):
            scene = helper.some_scene(numbers, 1)
            mode = helper.some_mode(numbers, scene)
            for contact in bars.contacts_of(scene, mode):
                forms = [form for form, _ in contact]
                seen = seen or len(set(forms)) < len(forms)
        self.assertTrue(seen)

    def test_some_give_a_bar_and_others_a_contact_alone(self):
        scene = (((0, 9),), (("m", ((SQUARE, ((0, 1), (1, 1), (1, 2), (0, 2))),), (0, 1), (0, 0)),),
                 (((4, -1), (6, -1), (6, 1), (4, 1)),), (), (), ())
        contact = (((-6, 1), -1), ((-3, 1), 1))
        self.assertEqual(self.check(scene, Y_MODE)[((0, 0), (2, 0))], ([contact], [contact]))

    def test_common_divisors_and_signs(self):
        scene = (((0, 9), (0, 9)), (("m", ((BOX,),), (0, -2, 4), (1, 0, -2)),), (((4, 0), (6, 0), (6, 4), (4, 4)),), (), (), ())
        told = self.check(scene, Y_MODE)[((0, 0), (2, 0))]
        self.assertEqual(told[0], [(((-3, 0, 2), -1), ((1, 1, -2), -1), ((3, 0, 2), 1), ((3, 1, -2), 1))])

    def test_all_modes(self):
        for mode in R_MODES:
            self.check(R_SCENE, mode)

    def test_as_the_second_opinion(self):
        numbers = Numbers(84)
        for _ in range(120):
            scene = helper.some_scene(numbers)
            self.check(scene, helper.some_mode(numbers, scene))

    def test_joined_or_not_does_not_count_between_two(self):
        for mode in R_MODES:
            for one, other in all_pairs(R_SCENE):
                self.assertEqual(bars.contacts_between(R_SCENE, mode, one, other),
                                 bars.contacts_between(replaced(R_SCENE, (4,), ((0, 2), (1, None))), mode, one, other))

    def test_what_bodies_are_to_each_other(self):
        """A bar that bars tells that insides meet, a contact that is not apart that rims have a point in common."""
        numbers = Numbers(85)
        seen = {}
        for _ in range(90):
            scene = helper.some_scene(numbers)
            mode = helper.some_mode(numbers, scene)
            for _ in range(4):
                standing = helper.some_standing(numbers, scene)
                for one, other in all_pairs(scene):
                    contacts, some = bars.contacts_between(scene, mode, one, other)
                    word = "clear"
                    if any(bars.bars_at(bar, standing) for bar in some):
                        word = "meet"
                    elif not all(bars.apart_at(contact, standing) for contact in contacts):
                        word = "touch"
                    slow = helper.slow_relation_at(scene, mode, standing, one, other)
                    self.assertEqual(word, slow, (scene, mode, standing, one, other))
                    seen[word] = seen.get(word, 0) + 1
        self.assertTrue(all(seen[word] > 40 for word in ("meet", "touch", "clear")), seen)


class PlaceFormsTest(unittest.TestCase):

    def check(self, scene, mover, point, forms):
        self.assertEqual(same_twice(self, bars.place_forms, scene, mover, point), forms)

    def test_told(self):
        self.check(D_SCENE, 0, (3, 0), [(-3, 1)])
        self.check(D_SCENE, 0, (3, 1), None)
        self.check(D_SCENE, 0, (-30, 0), [(30, 1)])
        self.check(Y_SCENE, 0, (3, 4), [(-4, 0, 1), (-3, 1, 0)])
        self.check(R_SCENE, 0, (2, 10), [(-2, 1, 0, 0)])
        self.check(R_SCENE, 0, (2, 9), None)
        self.check(R_SCENE, 1, (2, 2), [(-7, 0, 1, 0), (-1, 1, 0, 0)])
        self.check(R_SCENE, 2, (12, -3), [(-9, 0, 0, 2)])
        self.check(R_SCENE, 2, (13, -3), [(-5, 0, 0, 1)])
        self.check(R_SCENE, 2, (12, 3), None)

    def scene(self, across, up, many):
        return (((0, 1),) * many, (("m", ((SQUARE,),), across, up),), (), (), (), ())

    def test_fallen_away_and_none(self):
        self.check(self.scene((3, 0), (4, 0), 1), 0, (3, 4), [])
        self.check(self.scene((3, 0), (4, 0), 1), 0, (3, 5), None)
        self.check(self.scene((3, 0), (4, 0), 1), 0, (2, 4), None)
        self.check(self.scene((3, 2), (4, 0), 1), 0, (2, 4), [(1, 2)])
        self.check(self.scene((3, 2), (4, 0), 1), 0, (2, 5), None)
        self.check(self.scene((3, 0), (4, -2), 1), 0, (3, 0), [(-2, 1)])
        self.check(self.scene((3, 0), (4, -2), 1), 0, (2, 0), None)

    def test_one_form_twice(self):
        self.check(self.scene((0, 1, 1), (0, -2, -2), 2), 0, (3, -6), [(-3, 1, 1)])
        self.check(self.scene((0, 1, 1), (0, -2, -2), 2), 0, (3, 6), [(-3, 1, 1), (3, 1, 1)])
        self.check(self.scene((0, -6, 0, 9), (1, 0, 4, 0), 3), 0, (15, 3), [(-1, 0, 2, 0), (5, 2, 0, -3)])

    def test_one_stands_there_exactly_if_all_are_0(self):
        numbers = Numbers(86)
        stands = 0
        for _ in range(200):
            scene = helper.some_scene(numbers)
            standing = helper.some_standing(numbers, scene)
            q = helper.numbers_of(standing)
            place = helper.slow_place(scene, None, (0, 0), q)
            point = tuple(int(n) + numbers.choice((0, 0, 0, 1)) for n in place)
            forms = same_twice(self, bars.place_forms, scene, 0, point)
            if forms is None:
                self.assertNotEqual(place, point)
            else:
                self.assertEqual(forms, sorted(set(forms)))
                self.assertEqual(place == point, all(slow_value(form, q) == 0 for form in forms))
            stands += place == point
        self.assertGreater(stands, 20)


class RoomBarsTest(unittest.TestCase):

    def slow(self, scene, mode, number):
        _, m, _, _, place, room, _ = scene[5][number]
        rows = []
        for mark in helper.slow_marks(scene):
            joined = [pair for pair in scene[4] if m in pair[:2]]
            if mark == (0, m) or (mark == (2, 0) and (m, None) in joined):
                continue
            if mark[0] == 0 and any(mark[1] in pair for pair in joined):
                continue
            places = [helper.slow_place(scene, mode, mark, q) for q in steps(scene)]
            away = [(place[0] - x, place[1] - y) for x, y in places]
            rows.extend(slow_piece_contact(a, b, away) for a in room for b in helper.slow_shape(scene, mode, mark))
        return told_both(rows)[1]

    def check(self, scene, mode, number):
        found = same_twice(self, bars.room_bars, scene, mode, number)
        self.assertEqual(found, self.slow(scene, mode, number), (scene, mode, number))
        return found

    def test_told(self):
        """The hand turns at (5, 5); the arm that it is joined with does not count, the box in the room bars always."""
        for mode in (((0, 0), (0, 0, 0)), ((2, 1), (0, 0, 0)), ((("held", 7), 1), (1, 0, 0)),
                     ((1, ("held", 2)), (0, 0, 0))):
            self.check(R_SCENE, mode, 4)
        inside = replaced(R_SCENE, (3, 0, 2), ((2, 1), (6, 1), (11, 3), (6, 5)))
        self.assertIn((), self.check(inside, ((3, 0), (0, 0, 0)), 4))
        self.assertNotIn((), self.check(inside, ((2, 0), (0, 0, 0)), 4))
        self.assertNotIn((), self.check(R_SCENE, ((0, 0), (0, 0, 0)), 4))
        edge = replaced(R_SCENE, (3, 0, 2), ((2, 1), (6, 1), (11, 3), (9, 5)))
        self.assertNotIn((), self.check(edge, ((3, 0), (0, 0, 0)), 4))

    def test_walls(self):
        into = replaced(R_SCENE, (2, 0), ((6, 6), (30, 6), (30, 7), (6, 7)))
        mode = ((0, 0), (0, 0, 0))
        self.assertIn((), self.check(into, mode, 4))
        self.assertNotIn((), self.check(replaced(into, (4,), ((0, 1), (1, None))), mode, 4))
        self.assertIn((), self.check(replaced(into, (4,), ((0, 1), (0, None))), mode, 4))

    def test_joined_movers_that_hold(self):
        """The arm turns at (2, 10): the hand is joined with it, but what the hand holds counts."""
        free = self.check(R_SCENE, ((0, 0), (1, 0, 0)), 6)
        held = self.check(R_SCENE, ((("held", 0), 0), (1, 0, 0)), 6)
        self.assertEqual(len(held), len(free) + 1)
        apart = self.check(replaced(R_SCENE, (4,), ()), ((0, 0), (1, 0, 0)), 6)
        self.assertGreater(len(apart), len(free))
        bar = [bar for bar in held if bar not in free][0]
        self.assertEqual(sorted(side for _, side in bar), [-1, -1, 1, 1])

    def test_as_the_second_opinion(self):
        numbers = Numbers(87)
        many = 0
        while many < 80:
            scene = helper.some_scene(numbers)
            for number, deed in enumerate(scene[5]):
                if deed[0] == "turn":
                    mode = helper.some_mode(numbers, scene)
                    mode = (mode[0], mode[1][:deed[1]] + (deed[2],) + mode[1][deed[1] + 1:])
                    lies = tuple(0 if type(lie) is tuple and scene[5][lie[1]][1] == deed[1] else lie for lie in mode[0])
                    self.check(scene, (lies, mode[1]), number)
                    many += 1

    def test_no_other_body(self):
        scene = (((0, 1),), (("m", ((SQUARE,), (BOX,)), (0, 1), (0, 0)),), (), (), (),
                 (("turn", 0, 0, 1, (0, 0), (BOX,), 1),))
        self.assertEqual(self.check(scene, ((), (0,)), 0), [])
