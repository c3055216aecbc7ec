import unittest
from fractions import Fraction

from sweptfree import meeting
from tests import helper
from tests.helper import ANYTHING, SQUARE, Numbers, as_fraction, as_pair, nested, same_twice

A = ((0, 0), (2, 0), (0, 2))
B = SQUARE
MEETS, TOUCHES, CLEAR = ((1, 2), (1, 2)), ((1, 1), (1, 1)), ((2, 1), (0, 1))
LITTLE = Fraction(1, 10 ** 12)


def at(piece, place):
    return tuple((x + as_fraction(place[0]), y + as_fraction(place[1])) for x, y in piece)


def slow_relation(one, other, place):
    """How two pieces are to each other, by the area that they share, and by corners and edges that they share."""
    laid = at(one, place)
    if helper.common_area(laid, other):
        return "meet"
    shares = any(helper.place_in(other, x, y) != "outside" for x, y in laid)
    shares = shares or any(helper.place_in(laid, x, y) != "outside" for x, y in other)
    return "touch" if shares else "clear"


def slow_fault(one, other, place, value):
    """The fault of what has the form of a paper, by the words of S3.4."""
    laid = at(one, place)
    if value[0] != "meet":
        a, b, c = value[1]
        high, low = max(a * x + b * y for x, y in laid), min(a * x + b * y for x, y in other)
        if not (high < c < low if value[0] == "clear" else high <= c <= low):
            return ("line",)
    if value[0] != "clear":
        point = [as_fraction(n) for n in value[-1]]
        wheres = {helper.place_in(laid, *point), helper.place_in(other, *point)}
        if "outside" in wheres or (value[0] == "meet" and "edge" in wheres):
            return ("point",)
    return None


def some_place(numbers, one, other):
    """A place at which the pieces are near each other, often just touching."""
    p, q = numbers.choice(other), numbers.choice(one)
    x, y = Fraction(p[0] - q[0]), Fraction(p[1] - q[1])
    kind = numbers.below(4)
    if kind == 0:
        x, y = x + Fraction(numbers.between(-9, 9), numbers.between(1, 5)), y + Fraction(numbers.between(-9, 9), 7)
    elif kind == 1:
        x, y = x + numbers.between(-1, 1) * LITTLE, y + numbers.between(-1, 1) * LITTLE
    elif kind == 2:
        r = numbers.choice(one)
        t = Fraction(numbers.below(8), 7)
        x, y = x + t * (q[0] - r[0]), y + t * (q[1] - r[1])
    return (as_pair(x), as_pair(y))


class MeetingTest(unittest.TestCase):

    def check(self, one, other, place):
        word = same_twice(self, meeting.relation, one, other, place)
        self.assertEqual(word, slow_relation(one, other, place), (one, other, place))
        paper = same_twice(self, meeting.paper_of, one, other, place)
        self.assertEqual(paper[0], word)
        self.assertIs(type(paper), tuple)
        self.assertIsNone(slow_fault(one, other, place, paper), (one, other, place, paper))
        self.assertIsNone(same_twice(self, meeting.judge_paper, one, other, place, paper))
        return paper

    def test_told(self):
        self.assertEqual(self.check(A, B, MEETS)[0], "meet")
        self.assertEqual(self.check(A, B, TOUCHES)[0], "touch")
        self.assertEqual(self.check(A, B, CLEAR)[0], "clear")

    def test_corners_and_edges(self):
        for place, word in ((((1, 1), (0, 1)), "touch"), (((-2, 1), (0, 1)), "touch"), (((-2, 1), (1, 1)), "touch"),
                            (((0, 1), (1, 1)), "touch"), (((0, 1), (0, 1)), "meet"), (((-1, 1), (-1, 1)), "touch"),
                            (((-2, 1), (-2, 1)), "clear"), (((0, 1), (-2, 1)), "touch"), (((1, 1), (-2, 1)), "touch")):
            self.assertEqual(self.check(A, B, place)[0], word, place)

    def test_by_little(self):
        for dx in (-LITTLE, 0, LITTLE):
            for dy in (-LITTLE, 0, LITTLE):
                for x, y in ((1, 1), (-1, -1), (-2, 1), (1, -2), (0, 1), (Fraction(-3, 2), Fraction(-1, 2))):
                    self.check(A, B, (as_pair(x + dx + Fraction(0)), as_pair(y + dy + Fraction(0))))
        self.assertEqual(meeting.relation(A, B, (as_pair(1 - LITTLE), (0, 1))), "meet")
        self.assertEqual(meeting.relation(A, B, (as_pair(1 + LITTLE), (0, 1))), "clear")

    def test_as_the_second_opinion(self):
        numbers = Numbers(31)
        seen = {}
        for _ in range(500):
            size = numbers.choice((1, 3, 9, 10 ** 6))
            one, other = helper.some_piece(numbers, size), helper.some_piece(numbers, size)
            word = self.check(one, other, some_place(numbers, one, other))[0]
            seen[word] = seen.get(word, 0) + 1
        self.assertTrue(all(seen[word] > 50 for word in ("meet", "touch", "clear")), seen)

    def test_great_ones_in_good_time(self):
        one = helper.round_piece(24)
        below = 10 ** 39 + 7
        for place in (((0, 1), (0, 1)), ((10 ** 40 + 1, below), (3 - 10 ** 40, below)), ((10 ** 6, 1), (-10 ** 6, 1)),
                      (as_pair(Fraction(20 * below + 1, below)), (1, below)), ((1, 10 ** 40), (-1, 10 ** 40 + 1))):
            self.check(one, helper.round_piece(22), place)

    def judged(self, place, value, fault):
        self.assertEqual(same_twice(self, meeting.judge_paper, A, B, place, value), fault, value)

    def test_judged_form(self):
        point, line = ((1, 2), (1, 2)), (1, 1, 2)
        for value in (None, True, 3, "meet", (), ("meet",), ("meet", point, point), ["meet", point], ("meet", line),
                      ("meet", (1, 2)), ("meet", ((2, 4), (1, 2))), ("meet", ((1, 0), (1, 2))), ("meet", list(point)),
                      ("meet", ((1, 2), 1)), ("meet", ((1, 2),)), ("meet", ((1, 2), (1, 2), (1, 2))),
                      ("meets", point), ("touch", line), ("touch", point, line), ("touch", line, (1, 1)),
                      ("touch", (0, 0, 0), point), ("touch", (1, 1), point), ("touch", (1, 1, True), point),
                      ("clear", (0, 0, 3)), ("clear", line, point), ("clear", point), ("clear", [1, 1, 2]),
                      ("clear", (1, 1, 2, 0)), ("clear", ((1, 1), 0, 2)), ("clear", (None, 1, 2)), (None, line),
                      (["meet"], point), (0, line, point), ("touch", line, point, 0), {0: "meet", 1: point}):
            for place in (MEETS, TOUCHES, CLEAR):
                self.judged(place, value, ("form",))
        for value in ANYTHING + (nested(40),):
            self.judged(MEETS, value, ("form",))

    def test_judged_meet(self):
        for point, fault in ((((3, 4), (3, 4)), None), (((1, 2), (1, 2)), ("point",)), (((1, 1), (1, 1)), ("point",)),
                             (((3, 1), (3, 1)), ("point",)), (((1, 1), (3, 4)), ("point",)), (((2, 3), (2, 3)), None),
                             (((999999, 10 ** 6), (3, 4)), None), (((1, 4), (3, 4)), ("point",))):
            self.judged(MEETS, ("meet", point), fault)
        for place in (TOUCHES, CLEAR):
            self.judged(place, ("meet", ((1, 1), (1, 1))), ("point",))

    def test_judged_touch(self):
        corner = ((1, 1), (1, 1))
        for line, point, fault in (((-1, 0, -1), corner, None), ((-1, -1, -2), corner, None),
                                   ((0, -3, -3), corner, None), ((1, 0, 1), corner, ("line",)),
                                   ((-1, 0, 0), corner, ("line",)),
                                   ((-1, -1, -3), corner, ("line",)), ((-2, -1, -3), corner, None),
                                   ((-1, 1, 0), corner, ("line",)), ((-1, -1, -2), ((1, 1), (1, 2)), ("point",)),
                                   ((-1, -1, -2), ((3, 2), (1, 1)), ("point",)),
                                   ((1, 1, 2), ((9, 1), (9, 1)), ("line",))):
            self.judged(TOUCHES, ("touch", line, point), fault)
        self.judged(CLEAR, ("touch", (-2, 0, -3), ((1, 1), (0, 1))), ("point",))
        self.judged(CLEAR, ("touch", (-1, 0, -1), ((1, 1), (0, 1))), ("point",))
        self.judged(MEETS, ("touch", (-1, -1, -2), ((1, 1), (1, 1))), ("line",))
        along = ((0, 1), (1, 1))
        for x, fault in (((0, 1), None), ((1, 1), None), ((1, 2), None), ((-1, 2), ("point",)), ((2, 1), ("point",))):
            self.judged(along, ("touch", (0, -1, -1), (x, (1, 1))), fault)

    def test_judged_clear(self):
        for line, fault in (((-2, 0, -3), None), ((-4, 0, -5), None), ((-1, 0, -1), ("line",)),
                            ((-1, 0, -2), ("line",)), ((2, 0, 3), ("line",)), ((0, 1, 0), ("line",)),
                            ((-10 ** 30, 1, 2 - 2 * 10 ** 30), ("line",)), ((-10 ** 30, 1, 3 - 2 * 10 ** 30), None)):
            self.judged(CLEAR, ("clear", line), fault)
        self.judged(TOUCHES, ("clear", (-1, -1, -2)), ("line",))
        self.judged(MEETS, ("clear", (-1, -1, -2)), ("line",))

    def test_judged_as_the_second_opinion(self):
        numbers = Numbers(32)
        seen = {}
        for _ in range(300):
            one, other = helper.some_piece(numbers, 4), helper.some_piece(numbers, 4)
            place = some_place(numbers, one, other)
            paper = meeting.paper_of(one, other, place)
            elsewhere = meeting.paper_of(one, other, some_place(numbers, one, other))
            line = tuple(n + numbers.between(-1, 1) for n in (paper[1] if paper[0] != "meet" else (3, 4, 5)))
            point = tuple(as_pair(Fraction(numbers.choice(row))) for row in zip(*at(one, place)))
            for value in (paper, elsewhere, ("clear", line), ("touch", line, point), ("meet", point),
                          ("touch", line, paper[-1]), ("touch", paper[1], point)):
                if meeting.judge_paper(one, other, place, value) != ("form",):
                    fault = slow_fault(one, other, place, value)
                    self.assertEqual(meeting.judge_paper(one, other, place, value), fault)
                    seen[(value[0], fault)] = True
                else:
                    self.assertFalse(meeting.has_paper_form(value))
        self.assertEqual(len(seen), 7)
