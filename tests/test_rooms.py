import time
import unittest
from itertools import product

from sweptfree import rooms
from sweptfree.bars import bars_of, contacts_of, forms_in
from sweptfree.cells import all_cells
from sweptfree.errors import TooGreat
from sweptfree.frames import frame_of, signs_at
from sweptfree.free import is_clear, is_free
from tests import helper
from tests.helper import E_FRAME, Y_SCENE, Numbers, frame_with, replaced, same_twice, upright_frame

Y_MODE = ((), (0,))
DIAGONAL = (((-4, 1, 1), 1),)
BAND = (((-4, 1, 1), -1), ((0, 0, 1), 1))


class RowsTest(unittest.TestCase):

    def test_told(self):
        low, line, high = (-1, -1, -1, 1, 1), (-1, -1, 0, 1, 1), (-1, -1, 1, 1, 1)
        for contact, signs, bars, apart in ((DIAGONAL, low, False, True), (DIAGONAL, line, False, False),
                                            (DIAGONAL, high, True, False), ((), low, True, False), (BAND, low, True, False),
                                            (BAND, (-1, -1, -1, 0, 1), False, False), (BAND, high, False, True),
                                            (BAND, (1, 1, 1, -1, -1), False, True), (BAND, (0,) * 5, False, False)):
            self.assertIs(same_twice(self, rooms.bars_row, E_FRAME, contact, signs), bars)
            self.assertIs(same_twice(self, rooms.apart_row, E_FRAME, contact, signs), apart)
        for contacts, signs, free, clear in (([], low, True, True), ([DIAGONAL], line, True, False),
                                             ([DIAGONAL], low, True, True), ([DIAGONAL], high, False, False),
                                             ([DIAGONAL, BAND], low, False, False), ([DIAGONAL, BAND], line, True, False),
                                             ([()], line, False, False), ([BAND, ()], high, False, False),
                                             ([BAND], high, True, True)):
            self.assertIs(same_twice(self, rooms.free_row, E_FRAME, contacts, signs), free)
            self.assertIs(same_twice(self, rooms.clear_row, E_FRAME, contacts, signs), clear)
            self.assertIs(rooms.free_row(E_FRAME, tuple(contacts), signs), free)

    def test_as_the_second_opinion(self):
        numbers = Numbers(141)
        for _ in range(300):
            frame = helper.some_frame(numbers)
            contacts = helper.some_contacts(numbers, frame, 5)
            signs = tuple(numbers.between(-1, 1) for _ in frame[1])
            for contact in contacts:
                self.assertIs(rooms.bars_row(frame, contact, signs), helper.slow_bars(frame, contact, signs))
                self.assertIs(rooms.apart_row(frame, contact, signs), helper.slow_apart(frame, contact, signs))
            self.assertIs(rooms.free_row(frame, contacts, signs),
                          not [contact for contact in contacts if helper.slow_bars(frame, contact, signs)])
            self.assertIs(rooms.clear_row(frame, contacts, signs),
                          not [contact for contact in contacts if not helper.slow_apart(frame, contact, signs)])

    def test_all_rows_of_a_small_frame(self):
        frame = frame_with(((0, 5),), [(-2, 1)])
        both = (((-2, 1), -1), ((-2, 1), 1))
        for signs in product((-1, 0, 1), repeat=3):
            self.assertIs(rooms.bars_row(frame, both, signs), False)
            self.assertIs(rooms.apart_row(frame, both, signs), signs[1] != 0)

    def test_as_of_standings(self):
        """What is free and clear of a scene's contacts, a standing and its row of signs tell alike."""
        numbers = Numbers(142)
        for _ in range(40):
            scene = helper.some_scene(numbers)
            mode = helper.some_mode(numbers, scene)
            contacts, bars = contacts_of(scene, mode), bars_of(scene, mode)
            frame = frame_of(scene[0], forms_in(contacts + bars))
            for _ in range(5):
                standing = helper.some_standing(numbers, scene)
                signs = signs_at(frame, standing)
                if all(low <= x <= high for (low, high), x in zip(scene[0], helper.numbers_of(standing))):
                    self.assertIs(rooms.free_row(frame, bars, signs), is_free(scene, mode, standing))
                    self.assertIs(rooms.clear_row(frame, contacts, signs), is_clear(scene, mode, standing))


class PartsTest(unittest.TestCase):

    def check(self, frame, contacts):
        cells = all_cells(frame)
        told = []
        for function, holds in ((rooms.parts, rooms.free_row), (rooms.clear_parts, rooms.clear_row)):
            found = same_twice(self, function, frame, contacts)
            self.assertIs(type(found), list)
            self.assertEqual(found, helper.slow_lots(frame, [cell for cell in cells if holds(frame, contacts, cell)]))
            self.assertEqual(function(frame, tuple(contacts)), found)
            told.append(found)
        return told

    def counts(self, scene):
        contacts, bars = contacts_of(scene, Y_MODE), bars_of(scene, Y_MODE)
        frame = frame_of(scene[0], forms_in(contacts))
        return (len(self.check(frame, bars)[0]), len(self.check(frame, contacts)[1]))

    def test_told(self):
        """The wall of the height 4 parts the room if the arm goes up less high; just above it all is free, not clear."""
        self.assertEqual(self.counts(Y_SCENE), (1, 1))
        for high, counts in ((3, (2, 2)), (4, (1, 2)), (5, (1, 1))):
            self.assertEqual(self.counts(replaced(Y_SCENE, (0, 1, 1), high)), counts)
        self.assertEqual(self.counts(replaced(Y_SCENE, (2,), ())), (1, 1))
        self.assertEqual(self.check(E_FRAME, [()]), [[], []])
        self.assertEqual(self.check(E_FRAME, []), [[tuple(all_cells(E_FRAME))]] * 2)
        line = (-1, -1, 0, 1, 1)
        halves = self.check(E_FRAME, [(((-4, 1, 1), -1),), (((-4, 1, 1), 1),)])
        self.assertEqual(halves, [[((-1, -1, 0, 1, 1), (-1, 0, 0, 0, 1), (0, -1, 0, 1, 0))], []])
        apart = self.check(E_FRAME, [(((-4, 1, 1), -1), ((-4, 1, 1), 1))])
        self.assertEqual(([len(part) for part in apart[0]], [len(part) for part in apart[1]]), ([11], [4, 4]))
        self.assertNotIn(line, apart[1][0] + apart[1][1])

    def test_parts_in_one_slider(self):
        frame = frame_with(((0, 9),), [(-2, 1), (-4, 1), (-6, 1)])
        bars = [(((-4, 1), -1), ((-2, 1), 1)), (((-6, 1), -1), ((-4, 1), 1))]
        free, clear = self.check(frame, bars)
        self.assertEqual([len(part) for part in free], [3, 1, 3])
        self.assertEqual([len(part) for part in clear], [2, 2])

    def test_as_found_another_way(self):
        numbers = Numbers(143)
        seen = {}
        for _ in range(80):
            frame = helper.some_frame(numbers, (9, 6, 3))
            for contacts in (helper.some_contacts(numbers, frame, 6), helper.parting_contacts(numbers, frame)):
                free = self.check(frame, contacts)[0]
                seen[len(free)] = seen.get(len(free), 0) + 1
        self.assertGreaterEqual(len(seen), 4, seen)

    def test_great_frames_in_good_time(self):
        for frame in (upright_frame(1, 60), upright_frame(2, 40), upright_frame(3, 24)):
            numbers = Numbers(144)
            contacts = []
            for _ in range(200):
                pairs = {(numbers.choice(frame[1]), numbers.choice((-1, 1))) for _ in range(24)}
                contacts.append(tuple(sorted(pairs)))
            few = contacts[:20]
            self.assertEqual(sorted(cell for part in rooms.parts(frame, few) for cell in part),
                             [cell for cell in all_cells(frame) if rooms.free_row(frame, few, cell)])
            self.assertGreaterEqual(len(rooms.parts(frame, contacts)), 1)
            self.assertGreaterEqual(len(rooms.clear_parts(frame, contacts)), 0)
            self.assertEqual(len(rooms.parts(frame, [])), 1)


class WayTest(unittest.TestCase):

    def check(self, frame, contacts, one, other):
        found = same_twice(self, rooms.way_of_cells, frame, contacts, one, other)
        if found is not None:
            self.assertIs(type(found), list)
            self.assertEqual((found[0], found[-1]), (one, other))
            cells = all_cells(frame)
            for cell in found:
                self.assertIn(cell, cells)
                self.assertTrue(rooms.free_row(frame, contacts, cell))
            for a, b in zip(found, found[1:]):
                low, high = sorted((a, b), key=lambda cell: helper.slow_cell_dimension(frame, cell))
                self.assertEqual(helper.slow_cell_dimension(frame, high), helper.slow_cell_dimension(frame, low) + 1)
                self.assertTrue(helper.slow_underlies(low, high))
        return found

    def test_told(self):
        low, line, high = (-1, -1, -1, 1, 1), (-1, -1, 0, 1, 1), (-1, -1, 1, 1, 1)
        self.assertEqual(self.check(E_FRAME, [], low, low), [low])
        self.assertEqual(self.check(E_FRAME, [], line, line), [line])
        self.assertEqual(self.check(E_FRAME, [], low, line), [low, line])
        self.assertEqual(self.check(E_FRAME, [], low, high), [low, line, high])
        self.assertEqual(self.check(E_FRAME, (), high, low), [high, line, low])
        corner, far = (-1, -1, -1, 0, 0), (0, 0, 1, 1, 1)
        self.assertIsNotNone(self.check(E_FRAME, [], corner, far))

    def test_as_the_parts(self):
        numbers = Numbers(145)
        seen = {True: 0, False: 0}
        for _ in range(150):
            frame = helper.some_frame(numbers, (9, 5, 3))
            contacts = helper.parting_contacts(numbers, frame)
            parts = rooms.parts(frame, contacts)
            free = [cell for part in parts for cell in part]
            if free:
                one, other = numbers.choice(free), numbers.choice(free)
                way = self.check(frame, contacts, one, other)
                joined = any(one in part and other in part for part in parts)
                self.assertEqual(way is not None, joined)
                seen[joined] += 1
        self.assertGreater(min(seen.values()), 5, seen)


class TooGreatTest(unittest.TestCase):

    def test_just_not_and_just(self):
        for sliders, many in ((1, 60), (2, 40), (3, 24)):
            for more in (0, 1):
                frame = upright_frame(sliders, many + more)
                row = helper.slow_signs(frame, (0,) * sliders)
                for function, args in ((rooms.parts, ()), (rooms.clear_parts, ()), (rooms.way_of_cells, (row, row))):
                    if more:
                        with self.assertRaises(TooGreat):
                            function(frame, [()], *args)
                    else:
                        function(frame, [], *args)
        slanted = frame_with(((0, 9),) * 3, [(-7, 1, 0, 1)] + [(-k, 1, 0, 0) for k in range(1, 5)])
        for function, args in ((rooms.parts, ()), (rooms.clear_parts, ()), (rooms.way_of_cells, ((0,) * 11, (0,) * 11))):
            with self.assertRaises(TooGreat):
                function(slanted, [], *args)

    def test_rows_of_great_frames_are_told(self):
        frame = upright_frame(1, 90)
        row = helper.slow_signs(frame, (5,))
        self.assertIs(rooms.free_row(frame, [((frame[1][3], 1),)], row), row[3] != 1)
        self.assertIs(rooms.clear_row(frame, [()], row), False)


class ManyQuestionsTest(unittest.TestCase):

    def test_parts_and_ways(self):
        """All cells, the parts, and ways within a part, asked 50 times each, in good time."""
        frame = (((0, 4), (0, 4)), ((-7, 2, 3), (-5, 3, -2), (-4, 0, 1), (-4, 1, 0), (-3, 1, 1), (0, 0, 1), (0, 1, 0),
                                    (1, 1, -1)))
        contacts = [(((-7, 2, 3), 1), ((-5, 3, -2), 1)), (((-3, 1, 1), -1), ((1, 1, -1), 1)),
                    (((-7, 2, 3), -1), ((1, 1, -1), -1))]
        cells = helper.slow_cells(frame)
        self.assertEqual(len(cells), 53)
        free = [cell for cell in cells if not any(helper.slow_bars(frame, contact, cell) for contact in contacts)]
        clear = [cell for cell in cells if all(helper.slow_apart(frame, contact, cell) for contact in contacts)]
        whole, whole_clear = helper.slow_lots(frame, free), helper.slow_lots(frame, clear)
        beside = helper.slow_beside(frame, free)
        before = time.process_time()
        for k in range(50):
            self.assertEqual(all_cells(frame), cells)
            self.assertEqual(rooms.parts(frame, contacts), whole)
            self.assertEqual(rooms.clear_parts(frame, contacts), whole_clear)
            part = whole[k % len(whole)]
            one, other = part[k % len(part)], part[-1 - k % 7]
            way = rooms.way_of_cells(frame, contacts, one, other)
            self.assertEqual((way[0], way[-1]), (one, other))
            for a, b in zip(way, way[1:]):
                self.assertIn(b, beside[a][0] + beside[a][1])
        self.assertLess(time.process_time() - before, 1)
