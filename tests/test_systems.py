import unittest
from fractions import Fraction
from math import gcd

from sweptfree import systems
from tests import helper
from tests.helper import ANYTHING, Numbers, as_pair, nested, same_twice, slow_value

Z = (("over", (0, 1, 0)), ("from", (0, -1, 1)), ("null", (-2, 1, 1)))


def slow_gone(rows):
    """The system without its last slider, by the words of S5.3 and of the interface."""
    nulls = [k for k, (sort, form) in enumerate(rows) if sort == "null" and form[-1] != 0]
    left = []
    if nulls:
        e, f = rows[nulls[0]][1][-1], rows[nulls[0]][1]
        for k, (sort, g) in enumerate(rows):
            if k != nulls[0]:
                left.append((sort, [abs(e) * n - helper.sign(e) * g[-1] * m for n, m in zip(g, f)] if g[-1] else g))
    else:
        left.extend(row for row in rows if row[1][-1] == 0)
        for sort, f in [row for row in rows if row[1][-1] > 0]:
            for other, g in [row for row in rows if row[1][-1] < 0]:
                word = "over" if "over" in (sort, other) else "from"
                left.append((word, [f[-1] * n - g[-1] * m for n, m in zip(g, f)]))
    told = []
    for sort, form in left:
        divisor = gcd(*form[:-1])
        told.append((sort, tuple(n // divisor if divisor else 0 for n in form[:-1])))
    return tuple(told)


class ValuesTest(unittest.TestCase):

    def test_values(self):
        self.assertEqual(same_twice(self, systems.value_at, (-2, 1, 1), ((1, 2), (3, 2))), (0, 1))
        self.assertEqual(systems.value_at((1, 0, 0), ((1, 2), (3, 2))), (1, 1))
        numbers = Numbers(101)
        for _ in range(200):
            size = numbers.choice((4, 10 ** 20))
            form = tuple(numbers.between(-size, size) for _ in range(numbers.between(2, 4)))
            q = [Fraction(numbers.between(-size, size) * size, numbers.between(1, size) * size + 1) for _ in form[1:]]
            self.assertEqual(systems.value_at(form, tuple(as_pair(x) for x in q)), as_pair(slow_value(form, q)))

    def test_keeps(self):
        for point, kept in ((((1, 2), (3, 2)), True), (((1, 1), (1, 1)), True), (((0, 1), (2, 1)), False),
                            (((3, 2), (1, 2)), False), (((1, 2), (2, 1)), False), (((1, 10 ** 39), (1, 1)), False)):
            self.assertIs(same_twice(self, systems.keeps, Z, point), kept)
            self.assertIs(systems.keeps(list(Z), point), kept)
        self.assertIs(systems.keeps((), ((1, 1),)), True)
        self.assertIs(systems.keeps([], ()), True)
        for sort, kept in (("over", (False, False, True)), ("from", (False, True, True)), ("null", (False, True, False))):
            for k in range(3):
                self.assertIs(systems.keeps([(sort, (-1, 1))], ((k, 1),)), kept[k])


class GoneTest(unittest.TestCase):

    def check(self, rows, left):
        found = same_twice(self, systems.gone, rows)
        self.assertIs(type(found), tuple)
        self.assertEqual(found, left)
        self.assertEqual(systems.gone(tuple(rows)), found)

    def test_told(self):
        self.check(Z, (("over", (0, 1)), ("from", (1, -1))))
        self.check((), ())
        self.check([("from", (4, 6, 0)), ("over", (0, 0, 0)), ("null", (3, 0, 0))],
                   (("from", (2, 3)), ("over", (0, 0)), ("null", (1, 0))))
        self.check([("from", (1, 2, 3)), ("over", (5, 1, 2))], ())
        self.check([("over", (0, 1, -1)), ("from", (4, 0, 2)), ("from", (6, 2, 0)), ("over", (1, 1, 1)),
                    ("from", (9, 0, -3)), ("from", (6, 2, 0))],
                   (("from", (3, 1)), ("from", (3, 1)), ("over", (2, 1)), ("from", (1, 0)), ("over", (1, 2)),
                    ("over", (4, 1))))

    def test_null(self):
        self.check([("from", (4, 0, 2)), ("null", (1, 1, -2)), ("over", (3, 3, 0)), ("null", (0, 5, 4)),
                    ("from", (0, 0, -1))],
                   (("from", (5, 1)), ("over", (1, 1)), ("null", (2, 7)), ("from", (-1, -1))))
        self.check([("null", (1, 1, 2)), ("null", (1, 1, 2)), ("from", (0, 0, 1))], (("null", (0, 0)), ("from", (-1, -1))))
        self.check([("null", (5, 5, 0)), ("from", (0, 1, 2)), ("over", (0, 2, -3))], (("null", (1, 1)), ("over", (0, 1))))

    def test_as_the_second_opinion(self):
        numbers = Numbers(102)
        for _ in range(500):
            rows, sliders = helper.some_system(numbers, 9)
            if sliders > 1:
                self.check(rows, slow_gone(rows))

    def test_has_a_point_exactly_if_the_system_has_one(self):
        numbers = Numbers(103)
        for _ in range(300):
            rows, sliders = helper.some_system(numbers)
            if sliders > 1:
                left = systems.gone(rows)
                self.assertEqual(helper.surely_has_point(left, sliders - 1), helper.surely_has_point(rows, sliders))


class SolveTest(unittest.TestCase):

    def check(self, rows, sliders, has):
        same_twice(self, systems.solve, rows, sliders)
        self.assertIs(helper.surely_has_point(rows, sliders), has, rows)
        self.assertEqual(systems.solve(tuple(rows), sliders), systems.solve(list(rows), sliders))

    def test_told(self):
        self.check(Z, 2, True)
        self.check([("over", (-3, 1)), ("from", (2, -1))], 1, False)
        self.check([("from", (-3, 1)), ("from", (3, -1))], 1, True)
        self.check([("over", (-3, 1)), ("from", (3, -1))], 1, False)
        self.check([("null", (-3, 2)), ("over", (-1, 1))], 1, True)
        self.check([("null", (-3, 2)), ("over", (-3, 2))], 1, False)
        self.check([("null", (-3, 2)), ("null", (-4, 2))], 1, False)
        self.check([("null", (-4, 2)), ("null", (-3, 2))], 1, False)

    def test_without_rows(self):
        for sliders in (1, 2, 3):
            self.check((), sliders, True)
            self.assertEqual(len(systems.solve([], sliders)[1]), sliders)

    def test_rows_without_sliders(self):
        for sliders in (1, 2, 3):
            behind = (0,) * sliders
            for sort, first, has in (("over", 0, False), ("over", 1, True), ("over", -1, False), ("from", 0, True),
                                     ("from", -1, False), ("null", 0, True), ("null", 1, False), ("null", -1, False)):
                self.check([(sort, (first,) + behind)], sliders, has)
                self.check([("from", (0,) * sliders + (1,)), (sort, (first,) + behind)], sliders, has)
                self.check([("null", (5,) * sliders + (1,)), (sort, (first,) + behind)], sliders, has)

    def test_one_point_alone(self):
        point = (Fraction(1, 3), Fraction(-7, 2), Fraction(5))
        rows = []
        for k, x in enumerate(point):
            form = [-x.numerator] + [0, 0, 0]
            form[k + 1] = x.denominator
            rows.append(("from", tuple(form)))
            rows.append(("from", tuple(-n for n in form)))
        self.check(rows, 3, True)
        self.assertEqual(systems.solve(rows, 3), ("point", ((1, 3), (-7, 2), (5, 1))))
        for k in range(6):
            self.check(rows[:k] + [("over", rows[k][1])] + rows[k + 1:], 3, False)

    def test_a_slider_that_no_row_has(self):
        self.check([("over", (-1, 1, 0)), ("from", (3, -1, 0))], 2, True)
        self.check([("over", (-1, 0, 1, 0)), ("from", (0, 0, -1, 0))], 3, False)
        self.check([("null", (-1, 0, 0, 3))], 3, True)

    def test_many_on_one_end(self):
        for sort, other, has in (("from", "from", True), ("over", "from", False), ("from", "over", False)):
            self.check([("from", (-2, 1)), (sort, (-4, 2)), ("from", (-6, 3)), ("from", (2, -1)), (other, (8, -4)),
                        ("from", (9, -1)), ("over", (7, 1))], 1, has)

    def test_as_told_by_points_and_multipliers(self):
        numbers = Numbers(104)
        seen = {True: 0, False: 0}
        for _ in range(700):
            rows, sliders = helper.some_system(numbers, 12)
            has = helper.surely_has_point(rows, sliders)
            self.check(rows, sliders, has)
            seen[has] += 1
        self.assertGreater(min(seen.values()), 150)

    def test_as_many_as_are_told_in_good_time(self):
        numbers = Numbers(105)
        for sliders, many in ((1, 24), (2, 20), (3, 12), (1, 30), (2, 26), (3, 15)):
            for size in (9, 10 ** 20):
                for lift in (0, size):
                    rows = []
                    for k in range(many):
                        sort, form = helper.some_row(numbers, sliders, size, ("over", "from"))
                        rows.append((sort, (form[0] + lift,) + form[1:-1] + ((-1) ** k * abs(form[-1]),)))
                    helper.surely_has_point(rows, sliders)


class JudgeNeverTest(unittest.TestCase):

    ROWS = [("over", (-3, 1)), ("from", (2, -1)), ("null", (5, 0)), ("null", (1, 1))]

    def judged(self, rows, value, fault):
        self.assertEqual(same_twice(self, systems.judge_never, rows, value), fault, (rows, value))
        self.assertEqual(systems.judge_never(tuple(rows), value), fault)

    def test_told(self):
        for value, fault in (((1, 1, 0, 0), None), ((2, 2, 0, 0), None), ((0, 0, -1, 0), None), ((0, 0, 1, 0), ("number",)),
                             ((0, 0, 0, 0), ("number",)), ((1, 0, 0, 0), ("sum",)), ((-1, -1, 0, 0), ("sign", 0)),
                             ((1, -1, 0, 0), ("sign", 1)), ((0, 1, 0, 1), ("number",)), ((1, 0, 0, -1), None),
                             ((0, 1, -1, 1), None), ((5, 5, 1, 0), None), ((5, 5, 2, 0), ("number",)), ((1, 1, -5, 7), ("sum",)),
                             ((6, 6, 1, 0), None), ((10 ** 60, 10 ** 60, 0, 0), None), ((-1, 0, 0, -5), ("sign", 0)),
                             ((0, -3, 0, 0), ("sign", 1))):
            self.judged(self.ROWS, value, fault)

    def test_nought_counts_with_a_row_over(self):
        self.judged([("over", (0, 1)), ("from", (0, -1))], (1, 1), None)
        self.judged([("from", (0, 1)), ("over", (0, -1))], (1, 1), None)
        self.judged([("from", (0, 1)), ("from", (0, -1))], (1, 1), ("number",))
        self.judged([("from", (0, 1)), ("from", (0, -1)), ("over", (1, 1))], (1, 1, 0), ("number",))
        self.judged([("over", (0, 0))], (1,), None)
        self.judged([("over", (0, 0))], (0,), ("number",))
        self.judged([("over", (-1, 0))], (0,), ("number",))
        self.judged([("null", (0, 1)), ("null", (0, 1))], (1, -1), ("number",))

    def test_form(self):
        for value in ANYTHING + (nested(40), [1, 1, 0, 0], (1, 1, 0), (1, 1, 0, 0, 0), (True, 1, 0, 0), (1, 1, False, 0),
                                 (1, 1, None, 0), ((1, 1), (1, 1), (0, 1), (0, 1)), (1, 1, "0", 0), {0: 1}):
            self.judged(self.ROWS, value, ("form",))
        self.judged([], (), ("number",))
        for value in ANYTHING:
            if value != ():
                self.judged([], value, ("form",))
        self.judged([("over", (0, 1)), ("from", (0, -1))], (1, -1), ("sign", 1))
        self.judged([("over", (0, 1)), ("from", (0, -1))], (1, True), ("form",))

    def test_as_the_second_opinion(self):
        numbers = Numbers(106)
        seen = {}
        for _ in range(500):
            rows, sliders = helper.some_system(numbers, 6)
            word, told = systems.solve(rows, sliders)
            for value in [tuple(numbers.between(-1, 3) for _ in rows)] + ([told] if word == "never" else []):
                fault = helper.slow_never_fault(rows, value)
                self.judged(rows, value, fault)
                seen[fault and fault[0]] = True
                nudged = tuple(n + (numbers.below(4) == 0) for n in value)
                self.judged(rows, nudged, helper.slow_never_fault(rows, nudged))
        self.assertEqual(len(seen), 4)
