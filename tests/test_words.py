import unittest

from sweptfree import words
from tests.helper import ANYTHING, FRACTIONS, NO_FRACTIONS, NO_POINTS, POINTS, nested, same_twice


class WordsTest(unittest.TestCase):

    def test_names(self):
        for name in ("a", "z", "m", "a0", "abcdefghijkl", "z99999999999", "mover", "x1y2"):
            self.assertIs(words.is_name(name), True, name)
        for value in ("", "A", "aB", "0a", "9", "abcdefghijklm", "a b", "a-", "a_b", "a\n", "\ta", " a", "{", "a`",
                      "a{"):
            self.assertIs(words.is_name(value), False, value)
        for value in (None, True, 1, ("a",), ["a"], {"a": 1}):
            self.assertIs(words.is_name(value), False, value)

    def test_integers(self):
        for value in (0, 1, -1, 10 ** 40, -10 ** 40):
            self.assertIs(words.is_integer(value), True)
        for value in (True, False, None, "1", (1,), [1], {1: 1}):
            self.assertIs(words.is_integer(value), False)

    def test_fractions(self):
        for value in FRACTIONS:
            self.assertIs(words.is_fraction(value), True, value)
        for value in NO_FRACTIONS:
            self.assertIs(words.is_fraction(value), False, value)

    def test_points(self):
        for value in POINTS:
            self.assertIs(words.is_point(value), True, value)
        for value in NO_POINTS:
            self.assertIs(words.is_point(value), False, value)

    def test_anything(self):
        for function in (words.is_name, words.is_integer, words.is_fraction, words.is_point):
            for value in ANYTHING + (nested(40), nested(41), ValueError("a")):
                self.assertIn(same_twice(self, function, value), (True, False))
