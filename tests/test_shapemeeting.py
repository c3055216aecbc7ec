import unittest
from fractions import Fraction

from sweptfree import meeting, shapemeeting
from tests import helper
from tests.helper import ANYTHING, BOX, SQUARE, WEDGE, Numbers, as_fraction, as_pair, nested, replaced, same_twice

NOUGHT = ((0, 1), (0, 1))
# Two squares side by side with a gap of 2 between them, and a post that fits into the gap.
GATE = (SQUARE, ((3, 0), (4, 0), (4, 1), (3, 1)))
POST = (SQUARE,)


def place_of(x, y):
    return (as_pair(Fraction(x)), as_pair(Fraction(y)))


def at(shape, place):
    return helper.laid(shape, tuple(as_fraction(part) for part in place))


class ShapeMeetingTest(unittest.TestCase):

    def check(self, one, other, place):
        word = same_twice(self, shapemeeting.shape_relation, one, other, place)
        self.assertEqual(word, helper.slow_body_relation(at(one, place), list(other)), (one, other, place))
        pairs = [(i, j) for i, a in enumerate(at(one, place)) for j, b in enumerate(other) if helper.common_area(a, b)]
        first = same_twice(self, shapemeeting.first_meeting, one, other, place)
        self.assertEqual(first, pairs[0] if pairs else None)
        paper = same_twice(self, shapemeeting.shape_paper, one, other, place)
        self.assertIs(type(paper), tuple)
        self.assertEqual(paper[0], word)
        self.assertIsNone(slow_fault(one, other, place, paper), (one, other, place, paper))
        self.assertIsNone(same_twice(self, shapemeeting.judge_shape_paper, one, other, place, paper))
        return word

    def test_told(self):
        for x, y, word in ((1, 0, "touch"), (2, 0, "touch"), (Fraction(3, 2), 0, "clear"), (1, 1, "touch"),
                           (0, 0, "meet"), (Fraction(1, 2), Fraction(1, 2), "meet"), (3, 0, "meet"), (4, 1, "touch"),
                           (5, 0, "clear"), (Fraction(5, 2), 1, "touch"), (Fraction(3, 2), 1, "clear"),
                           (4, Fraction(10 ** 12 + 1, 10 ** 12), "clear"), (-1, -1, "touch"), (2, -1, "touch")):
            self.assertEqual(self.check(POST, GATE, place_of(x, y)), word, (x, y))
            self.assertEqual(self.check(GATE, POST, place_of(-x, -y)), word, (x, y))

    def test_first_meeting(self):
        self.assertEqual(shapemeeting.first_meeting(GATE, GATE, NOUGHT), (0, 0))
        self.assertEqual(shapemeeting.first_meeting(GATE, GATE, place_of(3, 0)), (0, 1))
        self.assertEqual(shapemeeting.first_meeting(GATE, GATE, place_of(-3, 0)), (1, 0))
        self.assertEqual(shapemeeting.first_meeting((WEDGE, BOX), (((9, 9), (10, 9), (10, 10)), SQUARE), NOUGHT), (0, 1))
        self.assertIsNone(shapemeeting.first_meeting(GATE, GATE, place_of(1, 0)))

    def test_as_the_second_opinion(self):
        numbers = Numbers(41)
        seen = {}
        for _ in range(160):
            size = numbers.choice((2, 3, 5, 10 ** 6))
            one = tuple(helper.some_piece(numbers, size) for _ in range(numbers.between(1, 4)))
            other = tuple(helper.moved_by(helper.some_piece(numbers, size), (numbers.between(0, 2 * size), size))
                          for _ in range(numbers.between(1, 4)))
            p, q = numbers.choice(numbers.choice(one)), numbers.choice(numbers.choice(other))
            below = numbers.choice((1, 1, 7))
            place = place_of(Fraction((q[0] - p[0]) * below + numbers.between(-1, 1), below), q[1] - p[1])
            word = self.check(one, other, place)
            seen[word] = seen.get(word, 0) + 1
        self.assertTrue(all(seen.get(word, 0) > 8 for word in ("meet", "touch", "clear")), seen)

    def test_many_great_pieces_in_good_time(self):
        piece = helper.round_piece(24)
        one = tuple(helper.moved_by(piece, (1000 * k, 7 * k)) for k in range(30))
        other = tuple(helper.moved_by(piece, (1000 * k + 500, 9 * k)) for k in range(30))
        below = 10 ** 39 + 7
        for place, word in ((((1, below), (-1, below)), "clear"), (((500 * below + 1, below), (1, below)), "meet")):
            self.assertEqual(shapemeeting.shape_relation(one, other, place), word)
            paper = shapemeeting.shape_paper(one, other, place)
            self.assertEqual(paper[0], word)
            self.assertIsNone(shapemeeting.judge_shape_paper(one, other, place, paper))


def slow_fault(one, other, place, value):
    """The fault of what has the form of a paper, by the words of S3.5."""
    some = at(one, place)
    if value[0] != "meet":
        for k, a in enumerate(some):
            for n, b in enumerate(other):
                x, y, c = value[1][k][n]
                high, low = max(x * p + y * q for p, q in a), min(x * p + y * q for p, q in b)
                if not (high < c < low if value[0] == "clear" else high <= c <= low):
                    return ("line", k, n)
    if value[0] != "clear":
        i, j, point = value[-3:]
        wheres = {helper.place_in(piece, *[as_fraction(n) for n in point]) for piece in (some[i], other[j])}
        if "outside" in wheres or (value[0] == "meet" and "edge" in wheres):
            return ("point",)
    return None


class JudgeTest(unittest.TestCase):

    MEETS, TOUCHES, CLEAR = place_of(Fraction(1, 2), 0), place_of(1, 0), place_of(Fraction(3, 2), 0)
    POINT = place_of(Fraction(3, 4), Fraction(1, 2))

    def judged(self, place, value, fault, one=POST, other=GATE):
        self.assertEqual(same_twice(self, shapemeeting.judge_shape_paper, one, other, place, value), fault, value)

    def test_meet(self):
        point = self.POINT
        self.judged(self.MEETS, ("meet", 0, 0, point), None)
        self.judged(self.MEETS, ("meet", 0, 1, point), ("point",))
        self.judged(self.TOUCHES, ("meet", 0, 0, point), ("point",))
        for x, y in ((Fraction(1, 2), Fraction(1, 2)), (1, Fraction(1, 2)), (Fraction(3, 4), 0), (Fraction(3, 4), 1),
                     (Fraction(1, 4), Fraction(1, 2)), (Fraction(5, 4), Fraction(1, 2))):
            self.judged(self.MEETS, ("meet", 0, 0, place_of(x, y)), ("point",))
        self.judged(place_of(Fraction(5, 2), 0), ("meet", 0, 1, place_of(Fraction(13, 4), Fraction(1, 2))), None)
        self.judged(place_of(Fraction(5, 2), 0), ("meet", 0, 0, place_of(Fraction(13, 4), Fraction(1, 2))), ("point",))

    def test_touch(self):
        right, left = (-1, 0, -1), (1, 0, 3)
        half = place_of(1, Fraction(1, 2))
        self.judged(self.TOUCHES, ("touch", ((right, left),), 0, 0, half), None)
        self.judged(self.TOUCHES, ("touch", ((right, left),), 0, 0, place_of(1, 1)), None)
        self.judged(self.TOUCHES, ("touch", ((right, (1, 0, 2)),), 0, 0, half), None)
        self.judged(self.TOUCHES, ("touch", ((right, left),), 0, 1, half), ("point",))
        self.judged(self.TOUCHES, ("touch", ((right, left),), 0, 0, place_of(Fraction(3, 2), 1)), ("point",))
        self.judged(self.TOUCHES, ("touch", ((left, right),), 0, 0, half), ("line", 0, 0))
        self.judged(self.TOUCHES, ("touch", ((right, right),), 0, 1, place_of(9, 9)), ("line", 0, 1))
        self.judged(self.MEETS, ("touch", ((right, left),), 0, 0, place_of(1, 1)), ("line", 0, 0))
        self.judged(self.CLEAR, ("touch", ((right, left),), 0, 0, place_of(1, 1)), ("point",))
        lines = (((1, 0, 0), (1, 0, 3)), ((-1, 0, -2), (1, 0, 3)))
        self.judged(place_of(-1, 0), ("touch", lines, 0, 0, place_of(0, 1)), None, one=GATE)
        self.judged(place_of(-1, 0), ("touch", lines, 1, 1, place_of(3, 1)), None, one=GATE)
        self.judged(place_of(-1, 0), ("touch", lines, 1, 0, place_of(3, 1)), ("point",), one=GATE)
        self.judged(place_of(-1, 0), ("touch", (lines[1], lines[1]), 0, 0, place_of(0, 1)), ("line", 0, 0), one=GATE)
        self.judged(place_of(-1, 0), ("touch", (lines[0], lines[0]), 0, 0, place_of(0, 1)), ("line", 1, 0), one=GATE)

    def test_clear(self):
        right, left = (-4, 0, -5), (4, 0, 11)
        self.judged(self.CLEAR, ("clear", ((right, left),)), None)
        self.judged(self.CLEAR, ("clear", (((-1, 0, -1), left),)), ("line", 0, 0))
        self.judged(self.CLEAR, ("clear", ((right, (1, 0, 3)),)), ("line", 0, 1))
        self.judged(self.CLEAR, ("clear", ((left, left),)), ("line", 0, 0))
        self.judged(self.CLEAR, ("clear", ((right, right),)), ("line", 0, 1))
        self.judged(self.TOUCHES, ("clear", (((-1, 0, -1), left),)), ("line", 0, 0))
        self.judged(self.MEETS, ("clear", ((right, left),)), ("line", 0, 0))

    def test_form(self):
        line, point = (1, 0, 3), self.POINT
        lines = ((line, line),)
        wrong = [
            None, True, "meet", (), ("meet",), ("meet", 0, 0), ("meet", 0, point), ["meet", 0, 0, point],
            ("meet", 0, 0, list(point)), ("meet", 0, 0, (1, 2)), ("meet", 0, 0, ((2, 4), (1, 2))), ("meet", 0, 2, point),
            ("meet", 1, 0, point), ("meet", -1, 0, point), ("meet", 0, -1, point), ("meet", False, 0, point),
            ("meet", 0, True, point), ("meet", 0, None, point), ("meet", 0, 0, point, 0), ("meet", lines, 0, 0, point),
            ("touch", 0, 0, point), ("clear", 0, 0, point), ("clear", lines, 0, 0, point), ("Meet", 0, 0, point),
            ("clear",), ("clear", ()), ("clear", (line, line)), ("clear", ((line,),)), ("clear", ((line, line, line),)),
            ("clear", lines + lines), ("clear", [lines[0]]), ("clear", ([line, line],)), ("clear", ((line, [1, 0, 3]),)),
            ("clear", ((line, (0, 0, 3)),)), ("clear", ((line, (1, 0)),)), ("clear", ((line, (1, True, 3)),)),
            ("clear", ((line, (1, 0, (3, 1))),)), ("clear", lines, point), ("clear", point), ("meet", lines),
            ("touch", lines), (None, lines), (["clear"], lines), (0, 0, 0, point),
        ]
        for good in (("touch", lines, 0, 1, point),):
            wrong.extend(replaced(good, (0,), word) for word in ("meet", "clear", None, 0))
            wrong.extend(replaced(good, (1,), part) for part in ((), lines[0], list(lines), lines + lines, None))
            wrong.extend(replaced(good, (1, 0), part) for part in ((), (line,), list(lines[0]), (line,) * 3, 7))
            wrong.extend(replaced(good, (1, 0, 1), part) for part in ((0, 0, 1), (1, 2), [1, 0, 3], None, (1, 0, "3")))
            wrong.extend(replaced(good, (2,), part) for part in (1, -1, True, False, None, (0,)))
            wrong.extend(replaced(good, (3,), part) for part in (2, -1, True, False, None, 10 ** 39))
            wrong.extend(replaced(good, (4,), part) for part in ((0, 0), list(point), point + point[:1], None))
            wrong.append(good + (0,))
            wrong.append(list(good))
        for value in wrong + list(ANYTHING) + [nested(40)]:
            for place in (self.MEETS, self.TOUCHES, self.CLEAR):
                self.judged(place, value, ("form",))

    def test_as_the_second_opinion(self):
        numbers = Numbers(42)
        seen = {}
        for _ in range(150):
            one = tuple(helper.some_piece(numbers, 3) for _ in range(numbers.between(1, 3)))
            other = tuple(helper.some_piece(numbers, 3) for _ in range(numbers.between(1, 3)))
            places = [place_of(numbers.between(2, 6), numbers.between(-6, 6)) for _ in range(3)]
            for place in places:
                for elsewhere in places:
                    value = shapemeeting.shape_paper(one, other, elsewhere)
                    fault = slow_fault(one, other, place, value)
                    self.assertEqual(shapemeeting.judge_shape_paper(one, other, place, value), fault)
                    seen[(value[0], fault and fault[0])] = True
        self.assertEqual(len(seen), 7, seen)

    def test_one_piece_each_is_as_of_pieces(self):
        for x in range(-3, 5):
            place = place_of(Fraction(x, 2), Fraction(1, 2))
            self.assertEqual(shapemeeting.shape_relation((BOX,), (WEDGE,), place), meeting.relation(BOX, WEDGE, place))
