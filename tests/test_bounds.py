import unittest
from fractions import Fraction

from sweptfree import bounds, systems
from tests import helper
from tests.helper import Numbers, as_fraction, same_twice, slow_value, surely_has_point

Z = (("over", (0, 1, 0)), ("from", (0, -1, 1)), ("null", (-2, 1, 1)))
FAR = 10 ** 90


def has(rows, *more):
    """Whether a system and some rows behind it have a point together; the sliders are told by the rows."""
    rows = list(rows) + list(more)
    return surely_has_point(rows, len(rows[0][1]) - 1)


def less_than(form, bound, sort="over"):
    """The row that asks of a form to be less than a number, or, from, not above it, or, null, this number."""
    a, b = bound.numerator, bound.denominator
    return (sort, (a - b * form[0],) + tuple(-b * n for n in form[1:]))


def above(form, bound, sort="over"):
    sort, row = less_than(form, bound, sort)
    return (sort, tuple(-n for n in row))


def null_space(rows, many):
    """Vectors that are orthogonal to all rows, as many independent ones as there are."""
    found = []
    for k in range(many):
        for unit in ([int(n == k) for n in range(many)],):
            found.append([Fraction(n) for n in unit])
    for row in rows:
        at = [sum(a * b for a, b in zip(row, vector)) for vector in found]
        pivots = [n for n, value in enumerate(at) if value]
        if pivots:
            p = pivots[0]
            found = [[x - at[n] / at[p] * y for x, y in zip(vector, found[p])]
                     for n, vector in enumerate(found) if n != p]
    return found


def in_integers(vector):
    below = 1
    for x in vector:
        below *= x.denominator
    return tuple(int(x * below) for x in vector)


def slow_dimension(rows, sliders):
    """How many independent ways lead from one point of the set to others: new points are looked for until none are."""
    word, told = systems.solve(rows, sliders)
    if not surely_has_point(rows, sliders):
        return -1
    start = [as_fraction(x) for x in told]
    ways, searching = [], True
    while searching:
        searching = False
        for vector in null_space(ways, sliders):
            form = (0,) + in_integers(vector)
            at = slow_value(form, start)
            for row in (less_than(form, at), above(form, at)):
                if not searching and surely_has_point(list(rows) + [row], sliders):
                    other = [as_fraction(x) for x in systems.solve(list(rows) + [row], sliders)[1]]
                    ways.append([y - x for x, y in zip(start, other)])
                    searching = True
    return len(ways)


class ExtentTest(unittest.TestCase):

    def check(self, rows, sliders, form):
        found = same_twice(self, bounds.extent, rows, sliders, form)
        self.assertEqual(bounds.extent(tuple(rows), sliders, form), found)
        self.assertEqual((type(found), len(found)), (tuple, 2))
        rows = list(rows) + [("from", (0,) * (sliders + 1))]
        for end, beyond in zip(found, (less_than, above)):
            if end is None:
                for far in (FAR, -FAR):
                    self.assertTrue(has(rows, beyond(form, Fraction(far))), (rows, form, found))
                continue
            self.assertIs(type(end[1]), bool)
            v = as_fraction(end[0])
            self.assertEqual(helper.as_pair(v), end[0])
            self.assertFalse(has(rows, beyond(form, v)), (rows, form, found))
            self.assertIs(has(rows, beyond(form, v, "null")), end[1], (rows, form, found))
            little = Fraction(1 if beyond is less_than else -1, FAR)
            self.assertTrue(has(rows, beyond(form, v + little)), (rows, form, found))
        return found

    def test_told(self):
        self.assertEqual(self.check(Z, 2, (0, 1, 0)), (((0, 1), False), ((1, 1), True)))
        self.assertEqual(self.check(Z, 2, (0, 0, 1)), (((1, 1), True), ((2, 1), False)))
        self.assertEqual(self.check(Z, 2, (5, 3, 3)), (((11, 1), True), ((11, 1), True)))
        self.assertEqual(self.check(Z, 2, (1, 0, -2)), (((-3, 1), False), ((-1, 1), True)))
        self.assertEqual(self.check([("from", (-1, 2))], 1, (0, 1)), (((1, 2), True), None))
        self.assertEqual(self.check([("over", (-1, 2))], 1, (0, -3)), (None, ((-3, 2), False)))
        self.assertEqual(self.check([("over", (0, 1, 0)), ("over", (4, -1, 0))], 2, (0, 1, 0)), (((0, 1), False), ((4, 1), False)))
        self.assertEqual(self.check([("over", (0, 1, 0)), ("over", (4, -1, 0))], 2, (0, 0, 1)), (None, None))
        self.assertEqual(self.check([("from", (0, 1, 0)), ("over", (0, 1, 0))], 2, (0, 1, 0)), (((0, 1), False), None))

    def test_without_rows(self):
        for sliders in (1, 2, 3):
            self.assertEqual(self.check((), sliders, (3,) + (1,) * sliders), (None, None))
            self.assertEqual(self.check((), sliders, (3,) + (0,) * sliders), (((3, 1), True), ((3, 1), True)))
            self.assertEqual(self.check((), sliders, (0,) * (sliders + 1)), (((0, 1), True), ((0, 1), True)))

    def test_as_told_by_points_and_multipliers(self):
        numbers = Numbers(111)
        seen = {}
        while sum(seen.values()) < 300:
            rows, sliders = helper.some_system(numbers, 9)
            if surely_has_point(rows, sliders):
                form = helper.some_row(numbers, sliders, 3)[1]
                told = tuple(end and end[1] for end in self.check(rows, sliders, form))
                seen[told] = seen.get(told, 0) + 1
        self.assertEqual(len(seen), 9, seen)

    def test_as_many_as_are_told_in_good_time(self):
        """Rows that keep the point (1, 2, 3), of 20 figures, as many up as down."""
        numbers = Numbers(112)
        for sliders, many in ((1, 24), (2, 20), (3, 12), (3, 14)):
            for form in ((7,) + (1, 2, 3)[:sliders], (0,) + (0,) * (sliders - 1) + (5,), (0, 1) + (0,) * (sliders - 1)):
                rows = []
                for k in range(many):
                    parts = [numbers.between(-10 ** 18, 10 ** 18) for _ in range(sliders)]
                    parts[-1] = (-1) ** k * abs(parts[-1])
                    value = sum(n * x for n, x in zip(parts, (1, 2, 3)))
                    rows.append((("over", "from")[k // 2 % 2], (numbers.between(1, 10 ** 19) - value,) + tuple(parts)))
                self.check(rows, sliders, form)
                self.assertEqual(bounds.dimension(rows, sliders), sliders)
                bounds.bounding(rows, sliders)


class FollowsTest(unittest.TestCase):

    def check(self, rows, sliders, row):
        found = same_twice(self, bounds.follows, rows, sliders, row)
        other = tuple(-n for n in row[1])
        denied = {"over": [("from", other)], "from": [("over", other)], "null": [("over", row[1]), ("over", other)]}
        slow = not any(surely_has_point(list(rows) + [denial], sliders) for denial in denied[row[0]])
        self.assertIs(found, slow)
        self.assertIs(bounds.follows(tuple(rows), sliders, row), slow)
        return found

    def test_told(self):
        for row, found in ((("from", (5, 1, 1)), True), (("over", (0, 1, 0)), True), (("from", (0, 1, 0)), True),
                           (("over", (0, 0, 1)), True), (("from", (-1, 0, 1)), True), (("over", (-1, 0, 1)), False),
                           (("null", (-4, 2, 2)), True), (("null", (0, 1, -1)), False), (("over", (1, -1, 0)), False),
                           (("from", (1, -1, 0)), True), (("null", (0, 0, 0)), True), (("over", (0, 0, 0)), False),
                           (("from", (0, 0, 0)), True), (("over", (1, 0, 0)), True), (("null", (1, 0, 0)), False)):
            self.assertIs(self.check(Z, 2, row), found, row)

    def test_of_no_point_all_follow(self):
        rows = [("over", (0, 1)), ("over", (0, -1))]
        for row in (("over", (-9, 1)), ("null", (3, 1)), ("over", (-1, 0)), ("from", (-7, -1))):
            self.assertIs(self.check(rows, 1, row), True)

    def test_of_no_row(self):
        for row, found in ((("over", (0, 1)), False), (("over", (1, 0)), True), (("over", (0, 0)), False),
                           (("from", (0, 0)), True), (("null", (0, 0)), True), (("null", (0, 1)), False)):
            self.assertIs(self.check((), 1, row), found)

    def test_of_all_together_only(self):
        rows = [("from", (0, 1, 0, 0)), ("from", (0, 0, 1, 0)), ("from", (0, 0, 0, 1))]
        for row in (("from", (0, 1, 1, 1)), ("from", (1, 2, 3, 4))):
            self.assertIs(self.check(rows, 3, row), True)
            for k in range(3):
                self.assertIs(self.check(rows[:k] + rows[k + 1:], 3, row), False)
        self.assertIs(self.check(rows, 3, ("over", (0, 1, 1, 1))), False)
        self.assertIs(self.check([("over", rows[0][1])] + rows[1:], 3, ("over", (0, 1, 1, 1))), True)

    def test_as_told_by_points_and_multipliers(self):
        numbers = Numbers(113)
        seen = {True: 0, False: 0}
        for _ in range(400):
            rows, sliders = helper.some_system(numbers, 7)
            seen[self.check(rows, sliders, helper.some_row(numbers, sliders, 2))] += 1
        self.assertGreater(min(seen.values()), 60)


class BoundingTest(unittest.TestCase):

    def slow(self, rows, sliders):
        left = dict(enumerate(rows))
        for k in reversed(range(len(rows))):
            row = left.pop(k)
            other = tuple(-n for n in row[1])
            denied = {"over": [("from", other)], "from": [("over", other)], "null": [("over", row[1]), ("over", other)]}
            if any(surely_has_point(list(left.values()) + [denial], sliders) for denial in denied[row[0]]):
                left[k] = row
        return sorted(left)

    def check(self, rows, sliders, numbers=None):
        found = same_twice(self, bounds.bounding, rows, sliders)
        self.assertIs(type(found), list)
        self.assertEqual(found, self.slow(rows, sliders))
        self.assertEqual(bounds.bounding(tuple(rows), sliders), found)
        if numbers is not None:
            self.assertEqual(found, numbers)

    def test_told(self):
        self.check(Z, 2, [0, 1, 2])
        self.check(Z + (("from", (5, 1, 1)),), 2, [0, 1, 2])
        self.check((("from", (5, 1, 1)),) + Z, 2, [1, 2, 3])
        self.check((), 2, [])
        self.check([("from", (0, 1)), ("from", (0, 2)), ("over", (3, 1)), ("from", (0, 1))], 1, [0])
        self.check([("from", (0, 1)), ("over", (0, 1))], 1, [1])
        self.check([("over", (0, 1)), ("from", (0, 1))], 1, [0])
        self.check([("over", (0, 1)), ("over", (0, -1)), ("from", (-9, 1)), ("null", (1, 1))], 1, [0, 1])
        self.check([("from", (0, 0)), ("over", (1, 0)), ("null", (0, 0))], 1, [])
        self.check([("null", (0, 1, 1)), ("null", (0, 2, 2)), ("null", (0, 1, -1))], 2, [0, 2])

    def test_as_told_by_points_and_multipliers(self):
        numbers = Numbers(114)
        for _ in range(150):
            rows, sliders = helper.some_system(numbers, 8)
            self.check(rows, sliders)


class RankTest(unittest.TestCase):

    def test_told(self):
        for forms, rank in (([], 0), ([(5, 0)], 0), ([(5, 1)], 1), ([(5, 1), (6, -2)], 1), ([(1, 0, 0), (2, 0, 0)], 0),
                            ([(1, 1, 2), (2, 2, 4), (3, -3, -6)], 1), ([(1, 1, 2), (2, 2, 5)], 2),
                            ([(0, 1, 0, 0), (0, 0, 1, 0), (0, 1, 1, 0)], 2), ([(0, 1, 0, 0), (0, 0, 1, 0), (7, 1, 1, 1)], 3),
                            ([(0, 0, 0, 3), (0, 0, 0, 5), (0, 0, 2, 1), (0, 0, 4, 3)], 2), ([(9, 0, 0, 0)] * 4, 0),
                            ([(1, 10 ** 20, 10 ** 20 + 1), (1, 10 ** 20 - 1, 10 ** 20)], 2),
                            ([(0, 0, 1, 0), (0, 0, 0, 1), (0, 1, 0, 0), (0, 5, 5, 5)], 3)):
            self.assertEqual(same_twice(self, bounds.rank_of, forms), rank, forms)
            self.assertEqual(bounds.rank_of(tuple(forms)), rank)
            self.assertEqual(bounds.rank_of(forms[::-1]), rank)

    def test_as_the_second_opinion(self):
        numbers = Numbers(115)
        for _ in range(300):
            many = numbers.between(1, 3)
            size = numbers.choice((1, 2, 10 ** 20))
            forms = [tuple(numbers.between(-size, size) for _ in range(many + 1)) for _ in range(numbers.between(0, 5))]
            left = null_space([[Fraction(n) for n in form[1:]] for form in forms], many)
            self.assertEqual(bounds.rank_of(forms), many - len(left))


class DimensionTest(unittest.TestCase):

    def check(self, rows, sliders, dimension=None):
        found = same_twice(self, bounds.dimension, rows, sliders)
        self.assertEqual(found, slow_dimension(rows, sliders), rows)
        self.assertEqual(bounds.dimension(tuple(rows), sliders), found)
        if dimension is not None:
            self.assertEqual(found, dimension, rows)
        return found

    def test_told(self):
        self.check(Z, 2, 1)
        for sliders in (1, 2, 3):
            self.check((), sliders, sliders)
        self.check([("over", (0, 1)), ("over", (0, -1))], 1, -1)
        self.check([("from", (0, 1)), ("from", (0, -1))], 1, 0)
        self.check([("from", (0, 1)), ("from", (1, -1))], 1, 1)
        self.check([("null", (0, 0, 0))], 2, 2)
        self.check([("null", (0, 1, 1, 1)), ("null", (4, 2, 2, 2))], 3, -1)
        self.check([("null", (2, 1, 1, 1)), ("null", (4, 2, 2, 2))], 3, 2)
        self.check([("from", (0, 1, 0, 0)), ("from", (0, 0, 1, 0)), ("from", (0, -1, -1, 0))], 3, 1)
        self.check([("from", (0, 1, 0, 0)), ("from", (0, 0, 1, 0)), ("from", (0, -1, -1, 0)), ("null", (1, 1, 2, 3))], 3, 0)
        self.check([("from", (0, 0, 0)), ("over", (1, 1, 0))], 2, 2)

    def test_as_the_second_opinion(self):
        numbers = Numbers(116)
        seen = {}
        for _ in range(300):
            rows, sliders = helper.some_system(numbers, 7)
            found = self.check(rows, sliders)
            seen[(sliders, found)] = True
        self.assertGreaterEqual(len(seen), 10, seen)
