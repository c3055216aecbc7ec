import unittest

from sweptfree.scenes import check_scene, held_by, is_mode, is_standing, many_sliders
from tests import helper
from tests.helper import (ANYTHING, BARE_SCENE, BOX, D_SCENE, FRACTIONS, FULL_SCENE, NO_FRACTIONS, R_MODES, R_SCENE,
                          SQUARE, Y_SCENE, Numbers, nested, replaced, same_twice)

# Going round to the right, with three in one line, not from the least one on, with a point twice.
NO_PIECES = (
    ((0, 0), (0, 1), (1, 1)), ((0, 0), (1, 0), (2, 0)), ((0, 0), (2, 0), (2, 2), (1, 1)), ((1, 0), (1, 1), (0, 0)),
    ((0, 0), (1, 0), (1, 0), (1, 1)), ((0, 0), (4, 0), (1, 1), (0, 4)),
)
ONE_SLIDER = (
    ((0, 8),), (("m", ((SQUARE,),), (0, 1), (0, 0)), ("n", ((SQUARE,), (BOX,)), (1, -1), (5, 0))), (),
    (("t", (SQUARE,), ((2, 1), (6, 1))), ("u", (BOX,), ((9, 9),))), ((0, None),),
    (("grip", 0, 0, 0, (2, 0), (0, 1), 3), ("lay", 0, 1, (6, 0), 2), ("grip", 1, 1, 0, (9, 8), (0, 1), 0),
     ("turn", 1, 0, 1, (0, 5), (BOX,), 4), ("lay", 2, 0, (9, 8), 0)),
)


def late_mistakes():
    """Pairs of a scene with one part that does not fit, and the path of what is wrong."""
    for base in (R_SCENE, ONE_SLIDER):
        limits, movers, walls, things, joined, deeds = base
        for k in range(len(limits)):
            for pair in ((5, 5), (5, 4), (10 ** 39, -10 ** 39), (1, 1)):
                yield base, (0, k), pair, (0, k)
        for k in range(1, len(movers)):
            yield base, (1, k, 0), movers[0][0], (1, k, 0)
        for k, mover in enumerate(movers):
            for f, face in enumerate(mover[1]):
                for j in range(len(face)):
                    for piece in NO_PIECES:
                        yield base, (1, k, 1, f, j), piece, (1, k, 1, f, j)
            for part in (2, 3):
                for row in (mover[part] + (0,), mover[part][:-1], (1,), (0,) * 9):
                    if len(row) != len(limits) + 1 and row:
                        yield base, (1, k, part), row, (1, k, part)
        for j in range(len(walls)):
            for piece in NO_PIECES:
                yield base, (2, j), piece, (2, j)
        for k, (name, shape, spots) in enumerate(things):
            for other in [mover[0] for mover in movers] + [thing[0] for thing in things[:k]]:
                yield base, (3, k, 0), other, (3, k, 0)
            for j in range(len(shape)):
                for piece in NO_PIECES:
                    yield base, (3, k, 1, j), piece, (3, k, 1, j)
            for j in range(len(spots)):
                yield base, (3, k, 2), spots[:j + 1] + (spots[j], (77, 77)), (3, k, 2, j + 1)
        for k in range(len(joined)):
            for m in (len(movers), len(movers) + 1, 10 ** 39):
                yield base, (4, k, 0), m, (4, k, 0)
            for n in (0, joined[k][0], len(movers), 10 ** 39):
                yield base, (4, k, 1), n, (4, k, 1)
            yield base, (4,), joined[:k + 1] + joined[:k + 1] + ((0, 0),), (4, k + 1)
        yield base, (4,), ((1, 0),), (4, 0, 1)
        yield base, (4,), ((1, 1),), (4, 0, 1)
        yield base, (4,), joined + ((1, None), (1, None)), (4, len(joined) + 1)
        for k, deed in enumerate(deeds):
            for mistake in deed_mistakes(base, k, deed):
                yield (base,) + mistake


def deed_mistakes(base, k, deed):
    limits, movers, walls, things, joined, deeds = base
    great = (99, 10 ** 39)
    if deed[0] == "grip":
        for at, many in ((1, len(movers)), (2, len(things)), (3, len(things[deed[2]][2]))):
            for n in (many,) + great:
                yield (5, k, at), n, (5, k, at)
        for at in (4, 5):
            x, y = deed[at]
            for point in ((x + 1, y), (x, y - 1), (-x - 7, -y - 7)):
                yield (5, k, at), point, (5, k)
    elif deed[0] == "lay":
        no_grips = [n for n in range(k) if deeds[n][0] != "grip"]
        for g in [k, k + 1, len(deeds)] + no_grips + list(great):
            yield (5, k, 1), g, (5, k, 1)
        for spot in (len(things[deeds[deed[1]][2]][2]),) + great:
            yield (5, k, 2), spot, (5, k, 2)
        x, y = deed[3]
        for point in ((x + 1, y), (x, y - 1)):
            yield (5, k, 3), point, (5, k)
    else:
        many = len(movers[deed[1]][1])
        for at, numbers in ((1, (len(movers),) + great), (2, (many,) + great), (3, (many, deed[2]) + great)):
            for n in numbers:
                yield (5, k, at), n, (5, k, at)
        for j in range(len(deed[5])):
            for piece in NO_PIECES:
                yield (5, k, 5, j), piece, (5, k, 5, j)


def part_at(tree, path):
    for k in path:
        tree = tree[k]
    return tree


class CheckTest(unittest.TestCase):

    def wrong(self, value, path):
        found = same_twice(self, check_scene, value)
        self.assertEqual(found, ("BadScene", {"path": path}), value)

    def right(self, value):
        self.assertIsNone(same_twice(self, check_scene, value))

    def test_right_ones(self):
        for scene in (D_SCENE, Y_SCENE, R_SCENE, ONE_SLIDER):
            self.right(scene)
        numbers = Numbers(61)
        for _ in range(60):
            self.right(helper.some_scene(numbers))
        self.right(replaced(R_SCENE, (4,), ()))
        self.right(replaced(R_SCENE, (5,), ()))
        self.right(replaced(R_SCENE, (4,), ((1, None), (1, 2), (0, 2), (0, None), (2, None), (0, 1))))
        self.right(replaced(D_SCENE, (0,), ((-10 ** 39, 1 - 10 ** 39),)))

    def test_form_comes_first(self):
        self.wrong(FULL_SCENE, (1, 1, 1, 0, 0))
        self.wrong(BARE_SCENE, (0, 0))
        self.wrong(replaced(BARE_SCENE, (5,), None), (5,))
        self.wrong(replaced(FULL_SCENE, (5, 2, 6), -1), (5, 2, 6))
        for value in ANYTHING + (nested(40),):
            self.wrong(value, ())
        for path, part, wrong in (((), list(R_SCENE), ()), ((0,), R_SCENE[0] + ((0, 1),), (0,)), ((0,), (), (0,)),
                                  ((0, 1), [0, 8], (0, 1)), ((0, 1, 0), True, (0, 1, 0)), ((1, 2), (), (1, 2)),
                                  ((1, 1, 1, 2, 0), [(0, 0), (2, 0), (0, 2)], (1, 1, 1, 2, 0)),
                                  ((1, 0, 2), (), (1, 0, 2)), ((1, 0, 2, 1), None, (1, 0, 2, 1)),
                                  ((2, 0), ((0, 0), (1, 0)), (2, 0)), ((3, 0, 2), (), (3, 0, 2)),
                                  ((3, 0, 2, 1), [6, 1], (3, 0, 2, 1)), ((4, 0, 1), True, (4, 0, 1)),
                                  ((4, 0, 0), -1, (4, 0, 0)), ((5, 0, 0), "lay", (5, 0)), ((5, 0, 0), "lift", (5, 0)),
                                  ((5, 1, 4), -1, (5, 1, 4)), ((5, 4, 5), (), (5, 4, 5)), ((5, 0, 3), False, (5, 0, 3))):
            self.wrong(replaced(replaced(R_SCENE, (0, 0), (9, 9)) if path else R_SCENE, path, part), wrong)

    def test_no_mover(self):
        self.wrong(replaced(R_SCENE, (1,), ()), (1,))
        self.wrong(replaced(replaced(R_SCENE, (1,), ()), (0, 2), (0, 0)), (0, 2))
        self.wrong((((0, 1),), (), (), (), (), ()), (1,))

    def test_each_part_that_does_not_fit(self):
        many = 0
        for base, path, part, wrong in late_mistakes():
            self.wrong(replaced(base, path, part), wrong)
            many += 1
        self.assertGreater(many, 200)

    def test_two_at_once(self):
        mistakes = [row for row in late_mistakes() if row[0] is R_SCENE]
        numbers = Numbers(62)
        tried = 0
        for _ in range(2500):
            one, other = numbers.choice(mistakes), numbers.choice(mistakes)
            if not (one[1][:2] == other[1][:2] or reaches_into(one, other) or reaches_into(other, one)):
                value = replaced(replaced(R_SCENE, one[1], one[2]), other[1], other[2])
                self.wrong(value, min(one[3], other[3]))
                tried += 1
        self.assertGreater(tried, 400)

    def test_within_one_deed(self):
        grip = ("grip", 3, 2, 9, (2, 2), (0, 0), 3)
        for at, n, wrong in ((1, 1, (5, 0, 2)), (2, 0, (5, 0, 3)), (3, 0, (5, 0)), (5, (0, -1), None)):
            self.wrong(replaced(R_SCENE, (5, 0), grip), (5, 0, at) if at < 4 else (5, 0))
            grip = replaced(grip, (at,), n)
            if wrong:
                self.wrong(replaced(R_SCENE, (5, 0), grip), wrong)
        self.right(replaced(R_SCENE, (5, 0), grip))
        turn = ("turn", 3, 3, 3, (5, 5), (SQUARE, NO_PIECES[0], BOX, NO_PIECES[1]), 0)
        for at, n, wrong in ((1, 1, (5, 4, 2)), (2, 1, (5, 4, 3)), (3, 1, (5, 4, 3)), (3, 0, (5, 4, 5, 1))):
            turn = replaced(turn, (at,), n)
            self.wrong(replaced(R_SCENE, (5, 4), turn), wrong)
        self.right(replaced(R_SCENE, (5, 4), replaced(turn, (5,), (SQUARE, BOX))))
        lay = ("lay", 4, 9, (0, 0), 0)
        for at, n, wrong in ((1, 0, (5, 5, 2)), (2, 0, (5, 5)), (3, (2, 2), None)):
            lay = replaced(lay, (at,), n)
            if wrong:
                self.wrong(replaced(R_SCENE, (5, 5), lay), wrong)
        self.right(replaced(R_SCENE, (5, 5), lay))


def reaches_into(one, other):
    """Whether a mistake can change what the other one is about: deeds hang on movers, things and grips."""
    if one[1][0] in (1, 3) and other[1][0] in (4, 5):
        return True
    if one[1][0] in (1, 3) and other[1][0] in (1, 3):
        return one[1][-1] == 0 or other[1][-1] == 0
    return one[1][0] == other[1][0] == 5 or one[1] == (4,) or other[1] == (4,)


class ModesTest(unittest.TestCase):

    def mode(self, value, right, scene=R_SCENE):
        self.assertIs(same_twice(self, is_mode, scene, value), right, value)

    def test_right_ones(self):
        for value in R_MODES:
            self.mode(value, True)
        self.mode(((), (0,)), True, Y_SCENE)
        numbers = Numbers(63)
        for _ in range(60):
            scene = helper.some_scene(numbers)
            self.mode(helper.some_mode(numbers, scene), True, scene)

    def test_lies(self):
        for lie, right in ((0, True), (1, True), (2, True), (3, False), (-1, False), (True, False), (False, False),
                           (None, False), (("held", 0), True), (("held", 7), True), (("held", 1), False),
                           (("held", 2), False), (("held", 3), False), (("held", 4), False), (("held", 8), False),
                           (("held", -1), False), (("held", True), False), (("held", 10 ** 39), False),
                           (["held", 0], False), (("held",), False), (("held", 0, 0), False), (("hold", 0), False),
                           ("held", False), (10 ** 39, False), ((0, 0), False)):
            self.mode(((lie, 0), (0, 0, 0)), right)
        for lie, right in ((("held", 2), True), (("held", 3), True), (("held", 0), False), (2, False), (1, True)):
            self.mode(((0, lie), (0, 0, 0)), right)

    def test_two_held_by_one(self):
        self.mode(((("held", 0), ("held", 3)), (0, 0, 0)), False)
        self.mode(((("held", 7), ("held", 2)), (0, 0, 0)), False)
        self.mode(((("held", 0), ("held", 2)), (0, 0, 0)), True)
        self.mode(((("held", 7), ("held", 3)), (0, 0, 0)), True)

    def test_faces(self):
        for faces, right in (((1, 2, 0), True), ((2, 0, 0), False), ((0, 3, 0), False), ((0, 0, 1), False),
                             ((0, 0), False), ((0, 0, 0, 0), False), ((), False), ([0, 0, 0], False),
                             ((0, True, 0), False), ((0, -1, 0), False), ((0, None, 0), False), (0, False)):
            self.mode(((0, 0), faces), right)

    def test_form(self):
        for value in ANYTHING + (nested(40), ((0, 0), (0, 0, 0), ()), [(0, 0), (0, 0, 0)], ((0, 0),),
                                 ([0, 0], (0, 0, 0)), ((0,), (0, 0, 0)), ((0, 0, 0), (0, 0, 0)), ((), (0, 0, 0)),
                                 (None, (0, 0, 0)), ((0, 0), None)):
            self.mode(value, False)
        self.mode(((), ()), False, Y_SCENE)
        self.mode(((0,), (0,)), False, Y_SCENE)

    def test_held_by(self):
        for mode, held in zip(R_MODES, ((None, None, None), (None, None, None), (None, 0, None), (None, 1, None),
                                        (None, 0, 1), (None, 1, 0), (None, None, 0))):
            for m in range(3):
                self.assertEqual(same_twice(self, held_by, R_SCENE, mode, m), held[m])


class StandingsTest(unittest.TestCase):

    def test_all(self):
        for part in FRACTIONS:
            for scene, value in ((R_SCENE, (part, (1, 2), part)), (Y_SCENE, ((0, 1), part)), (D_SCENE, (part,))):
                self.assertIs(same_twice(self, is_standing, scene, value), True)
                self.assertIs(is_standing(scene, value + ((0, 1),)), False)
                self.assertIs(is_standing(scene, value[1:]), False)
                self.assertIs(is_standing(scene, list(value)), False)
        for part in NO_FRACTIONS:
            for value in ((part, (1, 2), (0, 1)), ((1, 2), (0, 1), part)):
                self.assertIs(same_twice(self, is_standing, R_SCENE, value), False)
        for value in ANYTHING + (nested(40), (1, 2, 3), (0, 0, 0), ((0, 1), (0, 1), 0), "abc"):
            self.assertIs(same_twice(self, is_standing, R_SCENE, value), False, value)
        self.assertIs(is_standing(D_SCENE, (0, 1)), False)

    def test_many_sliders(self):
        for scene, many in ((D_SCENE, 1), (Y_SCENE, 2), (R_SCENE, 3)):
            self.assertEqual(same_twice(self, many_sliders, scene), many)
