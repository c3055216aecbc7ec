import unittest

from sweptfree import closedlists
from sweptfree.cells import all_cells
from sweptfree.errors import TooGreat
from sweptfree.rooms import way_of_cells
from tests import helper
from tests.helper import ANYTHING, E_FRAME, Numbers, frame_with, replaced, same_twice, upright_frame

# On E the contact bars the upper triangle, and the two sides and the corner beyond the line.
ABOVE = (((-4, 1, 1), 1),)
ON = (((-4, 1, 1), -1), ((-4, 1, 1), 1))  # bars nothing
LOW, LINE, HIGH = (-1, -1, -1, 1, 1), (-1, -1, 0, 1, 1), (-1, -1, 1, 1, 1)
NOUGHT = (-1, -1, -1, 0, 0)
FAR = (0, 0, 1, 1, 1)
BELOW_LINE = [LOW, LINE, NOUGHT, (-1, -1, -1, 0, 1), (-1, -1, -1, 1, 0), (-1, 0, 0, 0, 1), (0, -1, 0, 1, 0)]
# One slider from 0 to 6, with a bar from 2 to 4: the room falls apart.
R_FRAME = frame_with(((0, 6),), [(-2, 1), (-4, 1)])
BAR = (((-4, 1), -1), ((-2, 1), 1))


def on_rail(n):
    return helper.slow_signs(R_FRAME, (n,))


def slow_fault(frame, contacts, start, goals, value):
    """The first fault of what has the form of a closed list, by the words of the document."""
    cells = all_cells(frame)
    free = [cell for cell in cells if not any(helper.slow_bars(frame, contact, cell) for contact in contacts)]
    beside = helper.slow_beside(frame, free)
    for n, row in enumerate(value):
        if row not in free or row in value[:n]:
            return ("cell", n)
    if start not in value:
        return ("start",)
    for n, goal in enumerate(goals):
        if goal in value:
            return ("goal", n)
    for n, row in enumerate(value):
        left = sorted(cell for lot in beside[row] for cell in lot if cell not in value)
        if left:
            return ("open", n, left[0])
    return None


class ClosedListTest(unittest.TestCase):

    def check(self, frame, contacts, start, goals):
        """A closed list just if no goal is in the start's part, looked through here."""
        found = same_twice(self, closedlists.closed_list, frame, contacts, start, goals)
        cells = all_cells(frame)
        free = [cell for cell in cells if not any(helper.slow_bars(frame, contact, cell) for contact in contacts)]
        part = [lot for lot in helper.slow_lots(frame, free) if start in lot][0]
        if found is None:
            self.assertTrue([goal for goal in goals if goal in part])
        else:
            self.assertIs(type(found), list)
            self.assertFalse([goal for goal in goals if goal in part])
            self.assertIsNone(slow_fault(frame, contacts, start, goals, found))
            self.assertIsNone(closedlists.judge_closed(frame, contacts, start, goals, found))
            self.assertIsNone(closedlists.judge_closed(frame, contacts, start, goals, tuple(found)))
        return found

    def test_told(self):
        self.assertEqual(len(self.check(E_FRAME, [], LOW, [])), 11)
        self.assertIsNone(self.check(E_FRAME, [], LOW, [FAR]))
        self.assertEqual(sorted(self.check(E_FRAME, [ABOVE], LOW, [HIGH, FAR])), sorted(BELOW_LINE))
        self.assertEqual(sorted(self.check(E_FRAME, [ABOVE], LINE, [FAR, FAR])), sorted(BELOW_LINE))
        self.assertIsNone(self.check(E_FRAME, [ABOVE], LOW, [FAR, LINE]))
        self.assertIsNone(self.check(E_FRAME, [ABOVE], LOW, [LOW]))
        no_cell = (1, 1, 1, 1, 1)
        self.assertEqual(len(self.check(E_FRAME, [ABOVE], LOW, [no_cell, (0,) * 5])), 7)
        self.assertIsNone(self.check(E_FRAME, [ON], HIGH, [LOW]))
        self.assertEqual(len(self.check(E_FRAME, [ON], HIGH, [])), 11)

    def test_rooms_that_fall_apart(self):
        left, right = [on_rail(n) for n in (0, 1, 2)], [on_rail(n) for n in (4, 5, 6)]
        for start, goal in ((0, 6), (2, 4), (1, 5)):
            self.assertEqual(sorted(self.check(R_FRAME, [BAR], on_rail(start), [on_rail(goal)])), sorted(left))
            self.assertEqual(sorted(self.check(R_FRAME, [BAR], on_rail(goal), [on_rail(start)] * 2)), sorted(right))
            self.assertIsNone(self.check(R_FRAME, [], on_rail(start), [on_rail(goal)]))
        self.assertIsNone(self.check(R_FRAME, [BAR], on_rail(1), [on_rail(6), on_rail(2)]))
        self.assertEqual(len(self.check(R_FRAME, [BAR], on_rail(1), [on_rail(3)])), 3)

    def test_form_of_what_is_judged(self):
        right = closedlists.closed_list(E_FRAME, [ABOVE], LOW, [])
        for value in ANYTHING + (helper.nested(40),):
            if value not in ((), []):
                told = same_twice(self, closedlists.judge_closed, E_FRAME, [ABOVE], LOW, [FAR], value)
                self.assertEqual(told, ("form",), value)
            self.assertEqual(closedlists.judge_closed(E_FRAME, [ABOVE], LOW, [], right + [value]), ("form",), value)
        for row in (LOW[:4], LOW + (0,), list(LOW), (True,) + LOW[1:], (-1, -1, -1, 1, True), (-1, -1, -1, 1, 2),
                    (-1, -1, -2, 1, 1), (-1, -1, None, 1, 1), (-1, -1, (0, 1), 1, 1)):
            self.assertEqual(closedlists.judge_closed(E_FRAME, [ABOVE], LOW, [], [row]), ("form",), row)
            self.assertEqual(closedlists.judge_closed(E_FRAME, [ABOVE], FAR, [], right + [FAR, row]), ("form",), row)
        for value in ((), []):
            self.assertEqual(closedlists.judge_closed(E_FRAME, [ABOVE], LOW, [], value), ("start",))

    def test_faults_in_their_sequence(self):
        right = sorted(BELOW_LINE)
        judge = closedlists.judge_closed
        self.assertIsNone(judge(E_FRAME, [ABOVE], LOW, [FAR, HIGH], right))
        no_cell = (1, 1, 1, 1, 1)
        for odd in (HIGH, FAR, no_cell, (0,) * 5, right[3]):
            self.assertEqual(judge(E_FRAME, [ABOVE], FAR, [LOW], right + [odd]), ("cell", 7), odd)
        self.assertEqual(judge(E_FRAME, [ABOVE], LOW, [], [LOW, LOW, HIGH]), ("cell", 1))
        self.assertEqual(judge(E_FRAME, [ABOVE], LOW, [], (LOW, HIGH, LOW)), ("cell", 1))
        self.assertEqual(judge(E_FRAME, [ABOVE], FAR, [LOW], right), ("start",))
        self.assertEqual(judge(E_FRAME, [ABOVE], LOW, [FAR, LINE, LOW, LINE], right), ("goal", 1))
        self.assertEqual(judge(E_FRAME, [ABOVE], LOW, [LINE], [LOW, LINE]), ("goal", 0))
        for k, cell in enumerate(right):
            left = right[:k] + right[k + 1:]
            told = judge(E_FRAME, [ABOVE], left[0], [], left)
            self.assertEqual(told, slow_fault(E_FRAME, [ABOVE], left[0], [], left))
            self.assertEqual((told[0], told[2]), ("open", cell))
        self.assertEqual(judge(E_FRAME, [ABOVE], LOW, [], [LOW]), ("open", 0, min(set(right) - {LOW, NOUGHT} - {
            (-1, 0, 0, 0, 1), (0, -1, 0, 1, 0)})))
        self.assertEqual(judge(E_FRAME, [ABOVE], NOUGHT, [], [NOUGHT]), ("open", 0, (-1, -1, -1, 0, 1)))

    def test_as_the_second_opinion(self):
        numbers = Numbers(201)
        words = {}
        for _ in range(60):
            frame = helper.some_frame(numbers, (9, 5, 3))
            contacts = helper.parting_contacts(numbers, frame)
            cells = all_cells(frame)
            free = [cell for cell in cells if not any(helper.slow_bars(frame, contact, cell) for contact in contacts)]
            if not free:
                continue
            start = numbers.choice(free)
            goals = [numbers.choice(cells) for _ in range(numbers.below(3))]
            found = self.check(frame, contacts, start, goals)
            words[found is None] = words.get(found is None, 0) + 1
            self.assertEqual(found is None, any(goal in free and way_of_cells(frame, contacts, start, goal)
                                                for goal in goals))
            lot = closedlists.closed_list(frame, contacts, start, [])
            for _ in range(8):
                value = list(lot)
                for _ in range(numbers.below(3)):
                    change = numbers.below(4)
                    if change == 0:
                        value.insert(numbers.below(len(value) + 1), numbers.choice(cells))
                    elif change == 1 and value:
                        value.pop(numbers.below(len(value)))
                    else:
                        value = value[1:] + value[:1]
                told = same_twice(self, closedlists.judge_closed, frame, contacts, start, goals, value)
                self.assertEqual(told, slow_fault(frame, contacts, start, goals, value))
                words[told and told[0]] = words.get(told and told[0], 0) + 1
        for word in (True, False, None, "cell", "start", "goal", "open"):
            self.assertGreater(words.get(word, 0), 3, words)

    def test_too_great(self):
        slanted = frame_with(((0, 9),) * 3, [(-n, 1, 1, 0) for n in range(5)])
        for great in (upright_frame(1, 61), upright_frame(2, 41), upright_frame(3, 25), slanted):
            row = helper.slow_signs(great, (0,) * len(great[0]))
            self.assertRaises(TooGreat, closedlists.closed_list, great, [], row, [])
            for value in ([row], None, 7, ()):
                self.assertRaises(TooGreat, closedlists.judge_closed, great, [], row, [row], value)
        for frame in (upright_frame(1, 60), upright_frame(2, 40), upright_frame(3, 24),
                      frame_with(((0, 9),) * 3, [(-n, 1, 1, 0) for n in range(4)])):
            row = helper.slow_signs(frame, (0,) * len(frame[0]))
            found = closedlists.closed_list(frame, [], row, [])
            self.assertEqual(found, all_cells(frame))
            self.assertIsNone(closedlists.judge_closed(frame, [], row, [], found))
            self.assertEqual(closedlists.judge_closed(frame, [], row, [], found[:-1])[0], "open")
            self.assertEqual(replaced(tuple(found), (0,), row).count(row), 1 if found[0] == row else 2)
