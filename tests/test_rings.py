import time
import unittest
from fractions import Fraction

from sweptfree import rings
from sweptfree.errors import BadRing
from tests import helper
from tests.helper import ANYTHING, SQUARE, Numbers, as_pair, nested, outcome, same_twice, sides_of, turn

Z_RING = ((0, 0), (4, 0), (4, 4), (2, 1), (0, 4))
Z_CUT = (((0, 0), (4, 0), (2, 1)), ((2, 1), (4, 0), (4, 4)), ((0, 0), (2, 1), (0, 4)))
STRAIGHT = ((2, 0), (4, 0), (4, 2), (4, 4), (3, 4), (2, 4), (0, 4), (0, 0))
STAIRS = ((0, 0), (6, 0), (6, 2), (4, 2), (4, 4), (2, 4), (2, 6), (0, 6))


def comb(teeth):
    """A ring with so many teeth, four points for each."""
    row = [(0, 0), (4 * teeth, 0)]
    for k in range(teeth - 1, -1, -1):
        row.extend([(4 * k + 3, 9), (4 * k + 2, 1), (4 * k + 1, 1), (4 * k, 9)])
    return tuple(row)


def spiral(turns):
    """A ring that winds inwards, with a way of the width 1 between."""
    outer, inner = [(0, 0)], []
    x, y, far = 0, 0, 4 * turns + 4
    for k in range(turns * 2):
        dx, dy = ((1, 0), (0, 1), (-1, 0), (0, -1))[k % 4]
        x, y = x + dx * far, y + dy * far
        outer.append((x, y))
        left, up = ((-1, 1), (-1, -1), (1, -1), (1, 1))[k % 4]
        inner.append((x + left, y + up))
        if k:
            far -= 2
    dx, dy = ((1, 0), (0, 1), (-1, 0), (0, -1))[(turns * 2 - 1) % 4]
    inner[-1] = (outer[-1][0] - dy, outer[-1][1] + dx)
    return tuple(outer + inner[::-1] + [(0, 1)])


def meet_in(a, b, c, d):
    """How many points two edges have in common: 0, 1 or 2 for many."""
    ab, cd = (b[0] - a[0], b[1] - a[1]), (d[0] - c[0], d[1] - c[1])
    below = ab[0] * cd[1] - ab[1] * cd[0]
    if below:
        t = Fraction((c[0] - a[0]) * cd[1] - (c[1] - a[1]) * cd[0], below)
        u = Fraction((c[0] - a[0]) * ab[1] - (c[1] - a[1]) * ab[0], below)
        return 1 if 0 <= t <= 1 and 0 <= u <= 1 else 0
    if turn(a, b, c):
        return 0
    low, high = max(min(a, b), min(c, d)), min(max(a, b), max(c, d))
    return 0 if low > high else 1 if low == high else 2


def ring_fault(value):
    """What is wrong with points that are unlike: the number of an edge, or None."""
    many = len(value)
    edges = sides_of(value)
    for i in range(many):
        for j in range(many):
            if i != j:
                beside = (i - j) % many in (1, many - 1)
                if meet_in(*edges[i], *edges[j]) > (1 if beside else 0):
                    return i
    return None


def place_in_ring(ring, x, y):
    """Where a point is, by a ray straight up."""
    above = 0
    for a, b in sides_of(ring):
        if turn(a, b, (x, y)) == 0 and min(a, b) <= (x, y) <= max(a, b):
            return "edge"
        if (a[0] > x) != (b[0] > x) and a[1] + Fraction((b[1] - a[1]) * (x - a[0]), b[0] - a[0]) > y:
            above += 1
    return "inside" if above % 2 else "outside"


def cut_fault(ring, value):
    """What is wrong with pieces that should be a cut, by areas that are common."""
    for n, piece in enumerate(value):
        if helper.common_area(ring, piece) != helper.area_of(piece):
            return ("piece", n)
    for m in range(len(value)):
        for n in range(m + 1, len(value)):
            if helper.common_area(value[m], value[n]):
                return ("apart", m, n)
    return None if sum(map(helper.area_of, value)) == abs(helper.area_of(ring)) else ("area",)


def is_lean_cut(pieces):
    """Whether no two pieces with the very same edge are a piece together, by the hull of both."""
    for m, one in enumerate(pieces):
        for other in pieces[:m]:
            if {(b, a) for a, b in sides_of(one)} & set(sides_of(other)):
                if helper.area_of(helper.slow_hull(one + other)) == helper.area_of(one) + helper.area_of(other):
                    return False
    return True


def untangled(numbers, many, size):
    """A ring of some points, made by turning about what lies between two edges that cross; or None."""
    points = sorted({(numbers.between(-size, size), numbers.between(-size, size)) for _ in range(many)})
    points = sorted(points, key=lambda p: (p[0] * 7919 + p[1] * 104729) % 1009)
    for _ in range(400):
        found = [(i, j) for i in range(len(points)) for j in range(i + 2, len(points))
                 if (i or j < len(points) - 1)
                 and meet_in(points[i], points[i + 1], points[j], points[(j + 1) % len(points)])]
        if not found:
            break
        i, j = found[0]
        points = points[:i + 1] + points[i + 1:j + 1][::-1] + points[j + 1:]
    return tuple(points) if len(points) > 2 and ring_fault(points) is None else None


def some_rings():
    """Rings of many kinds, either way round."""
    numbers = Numbers(11)
    found = [Z_RING, STRAIGHT, STAIRS, SQUARE, comb(3), spiral(2), spiral(3), ((0, 0), (1, 0), (0, 1))]
    while len(found) < 60:
        ring = untangled(numbers, numbers.between(3, 12), numbers.choice((2, 3, 6, 40, 10 ** 6)))
        if ring:
            found.append(ring)
    return found + [ring[k:] + ring[:k] for k, ring in enumerate(found[:7])] + [ring[::-1] for ring in found]


RINGS = some_rings()


class RingCheckTest(unittest.TestCase):

    def check(self, value, word=None, number=None):
        expected = None if word is None else ("BadRing", {"word": word, "number": number})
        self.assertEqual(same_twice(self, rings.check_ring, value), expected, value)

    def test_right_ones(self):
        for ring in RINGS:
            self.check(ring)

    def test_form(self):
        for value in (None, True, 3, "abc", (), (1,), ((0, 0), (1, 0)), list(SQUARE), {0: (0, 0)}, nested(40),
                      BadRing("form", None)):
            self.check(value, "form")

    def test_point(self):
        self.check((1, 2, 3), "point", 0)
        self.check(((0, 0), (1, 0), [0, 1]), "point", 2)
        self.check(((0, 0), (1, 0), (0, True)), "point", 2)
        self.check(((0, 0), (1, 0), (0, 0), 7), "point", 2)
        self.check(((0, 0), (1, 0), 7, (0, 0)), "point", 2)
        self.check(((0, 0), (0, 0), (0, 0)), "point", 1)
        self.check(SQUARE + ((0, 0),), "point", 4)
        self.check(((0, 0), (2, 0), (2, 2), (0, 2), (2, 0)), "point", 4)
        self.check(((0, 0), {}, (1, 1)), "point", 1)

    def test_edge(self):
        self.check(((0, 0), (1, 0), (2, 0)), "edge", 0)
        self.check(((0, 0), (2, 0), (1, 0)), "edge", 0)
        self.check(((0, 0), (2, 2), (2, 0), (0, 2)), "edge", 0)
        self.check(((0, 0), (4, 0), (4, 4), (2, 0)), "edge", 0)
        self.check(((0, 4), (2, 0), (4, 4), (4, 0), (0, 0)), "edge", 0)
        self.check(((0, 0), (9, 0), (9, 5), (5, 5), (5, 0), (2, 0), (2, 5)), "edge", 0)
        self.check(((0, 0), (9, 0), (9, 5), (9, 3), (0, 3)), "edge", 1)
        self.check(((0, 0), (9, 0), (9, 9), (5, 9), (7, 9), (0, 9)), "edge", 2)
        self.check(((0, 0), (9, 0), (9, 3), (3, 3), (3, 2), (9, 1), (1, 9)), "edge", 1)
        self.check(((1, 0), (3, 0), (0, 0), (0, 3)), "edge", 0)

    def test_as_the_second_opinion(self):
        numbers = Numbers(12)
        rights = 0
        for _ in range(4000):
            size = numbers.choice((2, 3, 5))
            value = tuple((numbers.below(size), numbers.below(size)) for _ in range(numbers.between(3, 6)))
            repeated = [k for k in range(len(value)) if value[k] in value[:k]]
            if repeated:
                expected = ("BadRing", {"word": "point", "number": repeated[0]})
                self.assertEqual(outcome(rings.check_ring, value), expected)
                continue
            k = ring_fault(value)
            rights += k is None
            expected = None if k is None else ("BadRing", {"word": "edge", "number": k})
            self.assertEqual(outcome(rings.check_ring, value), expected, value)
        self.assertGreater(rights, 100)

    def test_near_misses(self):
        far = 10 ** 6
        self.check(((-far, -far), (far, far - 1), (far, far), (0, 0), (-far, far)))
        self.check(((-far, -far), (far, far), (far, far - 1), (0, 0), (-far, far)), "edge", 0)
        self.check(((0, 0), (far, 0), (far, far), (far - 1, 0)), "edge", 0)
        self.check(((0, 0), (far, 0), (far, far), (far - 1, 1)))

    def test_anything(self):
        for value in ANYTHING:
            found = same_twice(self, rings.check_ring, value)
            self.assertTrue(found is None or found[0] == "BadRing")


class RingPlacesTest(unittest.TestCase):

    def test_areas(self):
        self.assertEqual(rings.ring_area_twice(Z_RING), 20)
        self.assertEqual(rings.ring_area_twice(Z_RING[::-1]), 20)
        for ring in RINGS:
            self.assertEqual(same_twice(self, rings.ring_area_twice, ring), abs(helper.area_of(ring)))

    def test_told(self):
        for point, answer in ((((2, 1), (1, 1)), "edge"), (((2, 1), (2, 1)), "outside"), (((1, 1), (1, 1)), "inside"),
                              (((1, 1), (4, 1)), "outside"), (((0, 1), (4, 1)), "edge"), (((4, 1), (4, 1)), "edge"),
                              (((-1, 1), (0, 1)), "outside"), (((5, 1), (0, 1)), "outside"),
                              (((-1, 1), (1, 1)), "outside"),
                              (((1, 1), (0, 1)), "edge"), (((3, 1), (5, 2)), "edge"), (((3, 1), (249, 100)), "inside"),
                              (((3, 1), (251, 100)), "outside")):
            self.assertEqual(same_twice(self, rings.where_in_ring, Z_RING, point), answer, point)
            self.assertEqual(rings.where_in_ring(Z_RING[::-1], point), answer, point)

    def test_as_the_second_opinion(self):
        for ring in [ring for ring in RINGS if max(abs(x) + abs(y) for x, y in ring) < 30]:
            xs, ys = [x for x, y in ring], [y for x, y in ring]
            for x in range(2 * min(xs) - 1, 2 * max(xs) + 2):
                for y in range(2 * min(ys) - 1, 2 * max(ys) + 2):
                    point = (Fraction(x, 2), Fraction(y, 2))
                    self.assertEqual(rings.where_in_ring(ring, (as_pair(point[0]), as_pair(point[1]))),
                                     place_in_ring(ring, *point), (ring, point))

    def test_points_of_the_ring(self):
        numbers = Numbers(13)
        for ring in RINGS:
            for a, b in sides_of(ring):
                t = Fraction(numbers.below(100), 100)
                x, y = a[0] + (b[0] - a[0]) * t, a[1] + (b[1] - a[1]) * t
                self.assertEqual(rings.where_in_ring(ring, (as_pair(x), as_pair(y))), "edge")
                near = Fraction(1, 10 ** 12)
                for dx, dy in ((near, 0), (-near, 0), (0, near), (0, -near)):
                    point = (as_pair(x + dx), as_pair(y + dy))
                    self.assertEqual(rings.where_in_ring(ring, point), place_in_ring(ring, x + dx, y + dy))


class CutTest(unittest.TestCase):

    def test_triangles(self):
        for ring in RINGS + [comb(9), spiral(9)]:
            found = same_twice(self, rings.triangles, ring)
            self.assertIs(type(found), tuple)
            self.assertLessEqual(len(found), len(ring) - 2)
            for piece in found:
                self.assertEqual(len(piece), 3)
                self.assertTrue(helper.is_right_piece(piece))
            self.assertIsNone(cut_fault(ring, found), ring)
            self.assertIsNone(rings.judge_cut(ring, found))

    def test_cuts(self):
        for ring in RINGS + [comb(9), spiral(9)]:
            found = same_twice(self, rings.cut, ring)
            self.assertIs(type(found), tuple)
            self.assertLessEqual(len(found), len(ring) - 2)
            self.assertTrue(all(helper.is_right_piece(piece) for piece in found))
            self.assertIsNone(cut_fault(ring, found), ring)
            self.assertIsNone(rings.judge_cut(ring, found))
            self.assertTrue(is_lean_cut(found))
            self.assertIs(rings.is_lean(found), True)

    def test_lean(self):
        self.assertIs(rings.is_lean(Z_CUT), True)
        self.assertIs(rings.is_lean((((0, 0), (1, 0), (1, 1)), ((0, 0), (1, 1), (0, 1)))), False)
        self.assertEqual(rings.cut(STRAIGHT), (((0, 0), (4, 0), (4, 4), (0, 4)),))
        self.assertIs(rings.is_lean((((0, 0), (2, 0), (0, 2)), ((-2, 0), (0, 0), (0, 2)))), False)
        self.assertIs(rings.is_lean((((0, 0), (2, 0), (0, 2)), ((-2, 0), (0, 0), (0, 1)))), True)
        self.assertIs(rings.is_lean((((0, 0), (2, 0), (2, 2), (0, 2)), ((2, 0), (5, -1), (2, 2)))), True)
        self.assertIs(rings.is_lean((((0, 0), (2, 0), (2, 2), (0, 2)), ((2, 0), (3, 1), (2, 2)))), False)
        self.assertIs(rings.is_lean((((0, 0), (2, 0), (2, 2), (0, 2)), ((2, 0), (3, 0), (2, 2)))), False)
        self.assertIs(rings.is_lean((SQUARE, ((1, 0), (3, 0), (3, 1), (1, 1)))), False)
        self.assertIs(rings.is_lean((SQUARE, ((1, 0), (3, 0), (3, 2), (1, 2)))), True)
        self.assertIs(rings.is_lean((SQUARE,)), True)
        for ring in RINGS:
            found = rings.triangles(ring)
            self.assertIs(same_twice(self, rings.is_lean, found), is_lean_cut(found))

    def test_judged_told(self):
        for value, fault in (
                (Z_CUT, None), (Z_CUT[::-1], None), ((), ("area",)), (Z_CUT[:2], ("area",)), (Z_CUT[1:], ("area",)),
                (Z_CUT + Z_CUT[:1], ("apart", 0, 3)), (Z_CUT[:1] + Z_CUT, ("apart", 0, 1)), (list(Z_CUT), ("form",)),
                (None, ("form",)), (Z_CUT + (7,), ("form",)), (Z_CUT[:2] + (list(Z_CUT[2]),), ("form",)),
                ((((0, 0), (2, 1), (4, 0)),), ("form",)), ((((4, 0), (2, 1), (0, 0)),), ("form",)),
                ((((0, 0), (4, 0), (4, 4), (0, 4)),), ("piece", 0)),
                (Z_CUT + (((9, 9), (10, 9), (9, 10)),), ("piece", 3)),
                ((((0, 4), (2, 1), (4, 4)),), ("piece", 0)), ((((0, 0), (4, 0), (2, 2)),), ("piece", 0)),
                ((Z_CUT[0], ((0, 0), (4, 0), (3, 1)), Z_CUT[1], Z_CUT[1]), ("apart", 0, 1)),
                ((Z_CUT[0], Z_CUT[1], Z_CUT[2], ((0, 0), (1, 0), (1, 1))), ("apart", 0, 3)),
                ((((-1, 0), (5, 0), (2, 3)),), ("piece", 0)), ((((0, 0), (4, 0), (2, 1)),), ("area",))):
            if fault is not None and fault[0] == "form":
                self.assertEqual(same_twice(self, rings.judge_cut, Z_RING, value), fault, value)
            else:
                for ring in (Z_RING, Z_RING[::-1], Z_RING[2:] + Z_RING[:2]):
                    self.assertEqual(same_twice(self, rings.judge_cut, ring, value), fault, value)

    def test_corners_that_are_no_points_of_the_ring(self):
        ring = ((0, 0), (4, 0), (4, 4), (0, 4))
        fan = (((0, 0), (4, 0), (2, 4)), ((0, 0), (2, 4), (0, 4)), ((2, 4), (4, 0), (4, 4)))
        quarters = tuple(tuple((x + dx, y + dy) for x, y in ((0, 0), (2, 0), (2, 2), (0, 2)))
                         for dx in (0, 2) for dy in (0, 2))
        for value in (fan, quarters):
            for other in (ring, ring[::-1]):
                self.assertIsNone(rings.judge_cut(other, value))
                self.assertEqual(rings.judge_cut(other, value[1:]), ("area",))

    def test_judged_as_the_second_opinion(self):
        numbers = Numbers(14)
        words = {}
        for ring in RINGS:
            found = rings.cut(ring)
            other = rings.triangles(RINGS[numbers.below(len(RINGS))])
            k = numbers.below(len(found))
            by = (numbers.between(-1, 1), numbers.between(-1, 1))
            moved = tuple((x + by[0], y + by[1]) for x, y in found[k])
            bigger = helper.slow_hull(found[k] + (numbers.choice(ring),))
            for value in (found[:k] + found[k + 1:], found[:k] + found[k:k + 1] + found[k:], found + other[:1], other,
                          found[:k] + (moved,) + found[k + 1:], found[:k] + (bigger,) + found[k + 1:], found[::-1]):
                fault = cut_fault(ring, value)
                self.assertEqual(rings.judge_cut(ring, value), fault, (ring, value))
                words[fault and fault[0]] = True
        self.assertEqual(set(words), {None, "piece", "apart", "area"})

    def test_judged_anything(self):
        for value in ANYTHING + (nested(40),):
            self.assertIn(same_twice(self, rings.judge_cut, Z_RING, value), (("form",), ("area",), ("piece", 0)))

    def test_great_ones_in_good_time(self):
        for ring in (comb(9), spiral(9)):
            self.assertLessEqual(len(ring), 40)
            self.assertIsNone(rings.check_ring(ring))
            self.assertIsNone(rings.judge_cut(ring, rings.cut(ring)))
        circle = helper.round_piece(40)
        strips = tuple((circle[0], circle[k], circle[k + 1]) for k in range(1, 39))
        self.assertIsNone(rings.judge_cut(circle, strips))
        self.assertEqual(rings.cut(circle), (circle,))
        width = 60
        ring = ((0, 0), (width, 0), (width, 1), (0, 1))
        row = tuple(((k, 0), (k + 1, 0), (k + 1, 1), (k, 1)) for k in range(width))
        self.assertIsNone(rings.judge_cut(ring, row))
        self.assertEqual(rings.judge_cut(ring, row[:-1] + row[-2:-1]), ("apart", 58, 59))

    def test_many_judged(self):
        """What triangles tells for a ring of twelve points, whole, twice over and cut short, in good time."""
        ring = ((0, 0), (10, 1), (20, 0), (19, 9), (22, 20), (11, 18), (1, 21), (3, 12), (5, 10), (2, 5), (4, 4), (1, 2))
        pieces = rings.triangles(ring)
        self.assertEqual(len(pieces), 10)
        before = time.process_time()
        for _ in range(100):
            self.assertIsNone(rings.judge_cut(ring, pieces))
            self.assertEqual(rings.judge_cut(ring, pieces + pieces[::-1]), ("apart", 0, 19))
            self.assertEqual(rings.judge_cut(ring, pieces + pieces), ("apart", 0, 10))
            self.assertEqual(rings.judge_cut(ring, pieces[:-1]), ("area",))
        self.assertLess(time.process_time() - before, 1)
