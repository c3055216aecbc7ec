import unittest

from sweptfree.errors import BadText, BadTree
from sweptfree.tasktexts import fraction_text, read_task, task_text
from tests import helper
from tests.helper import BARE_TASK, BARE_TASK_TEXT, FULL_TASK, FULL_TASK_TEXT, same_twice

PUT_IN = ("task", "start", "things", "held", "faces", "thing", "mover", "on", "at", "a", "0", "7", "12", "{", "}", "(",
          ")", "[", "]", ";", ",", "/", "-", "$", "\t", "abcdefghijklm")
SHORT = ("task { start 1, -3/2, 5/7; things 0 held 3 2; faces 1 0; thing 0 on 1; mover 2 at (-4, 7); thing 3 on 4;"
         " mover 0 at (0, -1); }")


class TaskTextsTest(unittest.TestCase):

    def judge(self, text):
        """Compare what is read of a text with the second opinion."""
        place = helper.first_wrong_place(text, "TASK")
        try:
            task = read_task(text)
        except BadText as error:
            self.assertEqual(error.place, place, text)
            return
        except BadTree as error:
            self.assertEqual(error.path, (0,))
            task = None
        self.assertIsNone(place, text)
        if task is not None:
            self.assertEqual(read_task(task_text(task)), task)
            self.assertIsNone(helper.first_wrong_place(task_text(task), "TASK"))

    def test_written(self):
        self.assertEqual(task_text(FULL_TASK), FULL_TASK_TEXT)
        self.assertEqual(task_text(BARE_TASK), BARE_TASK_TEXT)

    def test_fraction_text(self):
        for fraction, text in (((0, 1), "0"), ((7, 1), "7"), ((-7, 1), "-7"), ((3, 2), "3/2"), ((-3, 2), "-3/2"),
                               ((1, 10 ** 20), "1/1" + "0" * 20), ((-10 ** 20, 1), "-1" + "0" * 20)):
            self.assertEqual(fraction_text(fraction), text)
            self.assertEqual(read_task(BARE_TASK_TEXT.replace("7/3", text))[0], (fraction,))

    def test_there_and_back(self):
        for task in (FULL_TASK, BARE_TASK):
            self.assertEqual(read_task(task_text(task)), task)
        numbers = helper.Numbers(3)
        for _ in range(200):
            task = some_task(numbers)
            self.assertEqual(read_task(task_text(task)), task)

    def test_other_fractions(self):
        for text, tells in (("2/4", None), ("1/0", None), ("0/1", (0, 1)), ("0/2", None), ("3/1", (3, 1)),
                            ("-3 / 2", (-3, 2)), ("- 3/2", (-3, 2)), ("-4/2", None), ("6/3", None), ("0/0", None)):
            text = BARE_TASK_TEXT.replace("7/3", "1, " + text)
            if tells:
                self.assertEqual(read_task(text)[0], ((1, 1), tells))
            else:
                with self.assertRaises(BadTree) as caught:
                    read_task(text)
                self.assertEqual(caught.exception.path, (0,))
                with self.assertRaises(BadText) as caught:
                    read_task(text + "}")
                self.assertEqual(caught.exception.place, len(text))

    def test_places_told(self):
        for text, place in (("task { start 1 / 2 ; things $.", 28), ("", 0), ("scene {", 0), ("task { start ;", 13),
                            ("task { start 1 / -2", 17), ("task { start -0", 14), ("task { start 1/2/3", 16),
                            ("task { start 1; things held held", 28), ("task { start 1; things -1", 23),
                            ("task { start 1; things; faces held 1", 30), ("task { start 1; things; faces; joined", 31),
                            (FULL_TASK_TEXT + "\n\n;", len(FULL_TASK_TEXT) + 2), ("task { start 1 \n\n", 17)):
            with self.assertRaises(BadText, msg=text) as caught:
                read_task(text)
            self.assertEqual(caught.exception.place, place, text)
            self.assertEqual(helper.first_wrong_place(text, "TASK"), place)

    def test_cut_anywhere(self):
        for text in (SHORT, FULL_TASK_TEXT, BARE_TASK_TEXT):
            for k in range(len(text) + 1):
                self.judge(text[:k])

    def test_a_lexeme_left_out_put_in_or_exchanged(self):
        parts = helper.in_lexemes(SHORT)
        for k in range(len(parts) + 1):
            self.judge(" ".join(parts[:k] + parts[k + 1:]))
            for lexeme in PUT_IN:
                self.judge(" ".join(parts[:k] + [lexeme] + parts[k:]))
                self.judge("\n".join(parts[:k] + [lexeme] + parts[k + 1:]))

    def test_blanks_and_line_feeds(self):
        parts = helper.in_lexemes(FULL_TASK_TEXT)
        self.assertEqual(read_task("\n \n" + " \n".join(parts) + "\n"), FULL_TASK)
        self.assertEqual(read_task("task{start 1,-3/2,0;things 0held 3 2;faces 1 0;thing 0on 1;mover 2at(-4,7);"
                                   "mover 0at(0,0);}"), FULL_TASK)
        self.assertEqual(read_task(BARE_TASK_TEXT.replace("things", "things 007"))[1], ((0, 0, 7), ()))

    def test_great_texts_in_good_time(self):
        many = read_task(BARE_TASK_TEXT.replace("faces", "faces" + " 7" * 90000))
        self.assertEqual(many[1], ((), (7,) * 90000))
        self.assertEqual(read_task(task_text(many)), many)
        for text, place in (("task { " + "9" * 190000, 7), ("task { start 1 ; } " + "9" * 190000, 17),
                            ("task { start 1 " + "7" * 190000, 15)):
            with self.assertRaises(BadText) as caught:
                read_task(text)
            self.assertEqual(caught.exception.place, place)

    def test_same_twice(self):
        for task in (FULL_TASK, BARE_TASK):
            same_twice(self, task_text, task)
        same_twice(self, fraction_text, (-3, 2))
        for text in (FULL_TASK_TEXT, BARE_TASK_TEXT, "task { $", BARE_TASK_TEXT.replace("7/3", "2/4")):
            same_twice(self, read_task, text)


def some_task(numbers):
    """A task with some number of all that it may have."""
    def many(least, most, part):
        return tuple(part() for _ in range(numbers.between(least, most)))

    def number():
        return numbers.below(12)

    def fraction():
        return helper.as_pair(helper.Fraction(numbers.between(-50, 50), numbers.between(1, 12)))

    def lie():
        return numbers.choice((number(), ("held", number())))

    def goal():
        return numbers.choice((("thing", number(), number()),
                               ("mover", number(), (numbers.between(-9, 9), numbers.between(-10 ** 6, 10 ** 6)))))

    return (many(1, 3, fraction), (many(0, 4, lie), many(0, 4, number)), many(0, 5, goal))
