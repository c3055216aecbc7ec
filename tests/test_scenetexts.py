import unittest

from sweptfree.errors import BadText, BadTree
from sweptfree.scenetexts import read_scene, scene_text, shape_text
from tests import helper
from tests.helper import BARE_SCENE, BARE_TEXT, D_SCENE, D_TEXT, FULL_SCENE, FULL_TEXT, SQUARE, same_twice

PUT_IN = ("scene", "limits", "mover", "walls", "thing", "joined", "grip", "lay", "turn", "face", "at", "up", "a",
          "price", "0", "7", "12", "{", "}", "(", ")", "[", "]", ";", ",", "/", "-", "$", "\t", "abcdefghijklm")
SHORT = ("scene { limits 0 -6, 1 2; mover m across 1 -2 up 3 face [(0, 1) (2, 3) (-4, 5)]; walls;"
         " thing t [(0, 0) (0, 0) (0, 0)] at (1, 1) (2, 2); joined 0; joined 1, 2;"
         " grip 0 takes 1 from 2 at (3, 4) offset (5, -6) price 7; lay 0 on 1 at (2, 3) price 4;"
         " turn 0 from 1 to 2 at (3, 4) room [(0, 0) (1, 0) (1, 1)] price 5; }")


def whitened(text):
    """The text with many more blanks and line feeds, and another one with as few as can be."""
    parts = helper.in_lexemes(text)
    wide = "\n" + " \n ".join(parts) + "  \n"
    tight = parts[0]
    for ahead, part in zip(parts, parts[1:]):
        glue = (ahead[0].isalpha() and part[0].isalnum()) or (ahead[0] in "123456789" and part[0].isdigit())
        tight += (" " if glue else "") + part
    return wide, tight


class SceneTextsTest(unittest.TestCase):

    def judge(self, text):
        """Compare what is read of a text with the second opinion."""
        place = helper.first_wrong_place(text, "SCENE")
        try:
            scene = read_scene(text)
        except BadText as error:
            self.assertEqual(error.place, place, text)
            return
        except BadTree as error:
            self.assertEqual(error.path, (0,))
            scene = None
        self.assertIsNone(place, text)
        if scene is not None:
            self.assertEqual(helper.in_lexemes(scene_text(scene)), helper.in_lexemes(text))

    def test_written(self):
        self.assertEqual(scene_text(D_SCENE), D_TEXT)
        self.assertEqual(scene_text(FULL_SCENE), FULL_TEXT)
        self.assertEqual(scene_text(BARE_SCENE), BARE_TEXT)

    def test_there_and_back(self):
        for scene in (D_SCENE, FULL_SCENE, BARE_SCENE):
            self.assertEqual(read_scene(scene_text(scene)), scene)
        for text in (D_TEXT, FULL_TEXT, BARE_TEXT):
            self.assertEqual(scene_text(read_scene(text)), text)
            self.assertIsNone(helper.first_wrong_place(text, "SCENE"))

    def test_there_and_back_of_many(self):
        numbers = helper.Numbers(2)
        for _ in range(150):
            scene = some_scene(numbers)
            self.assertEqual(read_scene(scene_text(scene)), scene)

    def test_shape_text(self):
        self.assertEqual(shape_text(()), "")
        self.assertEqual(shape_text((SQUARE,)), "[(0, 0) (1, 0) (1, 1) (0, 1)]")
        self.assertEqual(shape_text((SQUARE, ((-1, 2), (3, -4), (0, 0)))),
                         "[(0, 0) (1, 0) (1, 1) (0, 1)] [(-1, 2) (3, -4) (0, 0)]")

    def test_blanks_and_line_feeds(self):
        for text in (D_TEXT, FULL_TEXT, BARE_TEXT, SHORT):
            for other in whitened(text):
                self.assertEqual(read_scene(other), read_scene(text))
        self.assertEqual(read_scene("scene{limits-5- 5;walls;}")[0], ((-5, -5),))

    def test_places_told(self):
        for text, place in (("scene { }", 8), ("scene { limits 0 ; }", 17), ("scene { limits 0 -0 ;", 18), ("", 0),
                            ("  \n ", 4), ("scene", 5), ("scenes", 0), ("task", 0), (D_TEXT + "x", len(D_TEXT)),
                            (D_TEXT + " \t", len(D_TEXT) + 1), ("\tscene", 0), ("scene { limits 0 007;", 18),
                            ("scene { limits 0 6\t", 18), ("scene { limits 0 6 abcdefghijklm", 19),
                            ("scene { limits 0 6; mover abcdefghijklm", 26), ("scene { limits 0 6; mover 1m", 26),
                            ("scene { limits 0 6 $ ] ", 19), ("scene { limits ] $", 15), ("scene { limits 0 6;  ", 21)):
            with self.assertRaises(BadText, msg=text) as caught:
                read_scene(text)
            self.assertEqual(caught.exception.place, place, text)
            self.assertEqual(helper.first_wrong_place(text, "SCENE"), place)

    def test_names_that_stand_in_forms(self):
        for name in ("mover", "face", "walls", "scene", "at", "across", "up", "abcdefghijkl", "a0"):
            text = D_TEXT.replace("mover m", "mover " + name)
            self.assertEqual(read_scene(text)[1][0][0], name)

    def test_cut_anywhere(self):
        for text in (SHORT, D_TEXT, FULL_TEXT):
            for k in range(len(text) + 1):
                self.judge(text[:k])

    def test_a_lexeme_left_out_put_in_or_exchanged(self):
        parts = helper.in_lexemes(SHORT)
        for k in range(len(parts) + 1):
            self.judge(" ".join(parts[:k] + parts[k + 1:]))
            for lexeme in PUT_IN:
                self.judge(" ".join(parts[:k] + [lexeme] + parts[k:]))
                self.judge(" ".join(parts[:k] + [lexeme] + parts[k + 1:]))
        for k in range(len(parts) - 1):
            self.judge(" ".join(parts[:k] + [parts[k + 1], parts[k]] + parts[k + 2:]))

    def test_a_character_put_in(self):
        for k in range(len(SHORT) + 1):
            for sign in "\t$A.09a-\n ":
                self.judge(SHORT[:k] + sign + SHORT[k:])

    def test_trees_that_are_no_scenes(self):
        text = BARE_TEXT.replace("5 -5", "0 1, 0 1, 0 1, 0 1")
        with self.assertRaises(BadTree) as caught:
            read_scene(text)
        self.assertEqual(caught.exception.path, (0,))
        with self.assertRaises(BadText) as caught:
            read_scene(text + ";")
        self.assertEqual(caught.exception.place, len(text))

    def test_great_texts_in_good_time(self):
        many = "walls" + " [(0, 0) (1, 0) (0, 1)]" * 8000
        scene = read_scene(BARE_TEXT.replace("walls", many))
        self.assertEqual(len(scene[2]), 8000)
        self.assertEqual(read_scene(scene_text(scene)), scene)
        for text, place in (("scene { ;" + "9" * 190000, 8), ("scene { limits 0 6 " + "9" * 190000, 19),
                            ("scene { limits 0 6 ; } " + "0" * 190000, 21), (D_TEXT + " " * 190000, None),
                            ("a" * 200000, 0), ("scene " * 30000, 6), (" " * 200000, 200000)):
            if place is None:
                self.assertEqual(read_scene(text), D_SCENE)
            else:
                with self.assertRaises(BadText) as caught:
                    read_scene(text)
                self.assertEqual(caught.exception.place, place)

    def test_long_numerals(self):
        n = 10 ** 60 + 7
        text = D_TEXT.replace("0 6", f"-{n} {n}")
        self.assertEqual(read_scene(text)[0], ((-n, n),))
        self.assertEqual(scene_text(read_scene(text)), text)

    def test_same_twice(self):
        for scene in (D_SCENE, FULL_SCENE):
            same_twice(self, scene_text, scene)
            same_twice(self, shape_text, scene[2])
        for text in (D_TEXT, FULL_TEXT, "scene $", BARE_TEXT.replace("5 -5", "0 1, 0 1, 0 1, 0 1")):
            same_twice(self, read_scene, text)


def some_scene(numbers):
    """A scene with some number of all that it may have."""
    def integer():
        return numbers.choice((0, 1, -1, numbers.between(-99, 99), numbers.between(-10 ** 6, 10 ** 6)))

    def many(least, most, part):
        return tuple(part() for _ in range(numbers.between(least, most)))

    def number():
        return numbers.below(12)

    def point():
        return (integer(), integer())

    def piece():
        return many(3, 6, point)

    def shape():
        return many(1, 3, piece)

    def name():
        return numbers.choice(("m", "mover", "x0", "abcdefghijkl", "walls", "grip"))

    def deed():
        return numbers.choice((
            ("grip", number(), number(), number(), point(), point(), number()),
            ("lay", number(), number(), point(), 10 ** number()),
            ("turn", number(), number(), number(), point(), shape(), number()),
        ))

    return (
        many(1, 3, lambda: (integer(), integer())),
        many(0, 3, lambda: (name(), many(1, 3, shape), many(1, 4, integer), many(1, 4, integer))),
        many(0, 2, piece),
        many(0, 3, lambda: (name(), shape(), many(1, 3, point))),
        many(0, 2, lambda: (number(), numbers.choice((None, number())))),
        many(0, 4, deed),
    )
