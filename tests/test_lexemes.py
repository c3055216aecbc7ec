import unittest

from sweptfree.errors import BadText
from sweptfree.lexemes import lexemes
from tests.helper import D_TEXT, LEXEME, same_twice


class LexemesTest(unittest.TestCase):

    def wrong(self, text, place):
        with self.assertRaises(BadText) as caught:
            lexemes(text)
        self.assertEqual(caught.exception.place, place)

    def test_told(self):
        self.assertEqual(lexemes("007"), [("numeral", "0", 0), ("numeral", "0", 1), ("numeral", "7", 2)])
        self.assertEqual(lexemes("12ab"), [("numeral", "12", 0), ("word", "ab", 2)])
        self.assertEqual(lexemes("-12"), [("sign", "-", 0), ("numeral", "12", 1)])
        self.assertEqual(lexemes("a1b2 0x"), [("word", "a1b2", 0), ("numeral", "0", 5), ("word", "x", 6)])
        self.assertEqual(lexemes(" \n\n [ "), [("sign", "[", 4)])
        self.assertEqual(lexemes(""), [])
        self.assertEqual(lexemes(" \n "), [])

    def test_signs(self):
        told = "{ } ( ) [ ] ; , / -"
        self.assertEqual([row[:2] for row in lexemes(told)], [("sign", sign) for sign in told.split()])
        self.assertEqual([row[1:] for row in lexemes("{}()[];,/-")], [(c, k) for k, c in enumerate("{}()[];,/-")])
        self.assertEqual([row[1] for row in lexemes("--/-")], ["-", "-", "/", "-"])

    def test_each_letter_and_digit(self):
        for sign in "abcdefghijklmnopqrstuvwxyz":
            self.assertEqual(lexemes(sign + sign), [("word", sign + sign, 0)])
            self.assertEqual(lexemes("a" + sign), [("word", "a" + sign, 0)])
        for sign in "123456789":
            self.assertEqual(lexemes(sign + sign), [("numeral", sign + sign, 0)])
            self.assertEqual(lexemes("a" + sign), [("word", "a" + sign, 0)])

    def test_words_of_twelve_and_thirteen(self):
        self.assertEqual(lexemes("abcdefghijkl"), [("word", "abcdefghijkl", 0)])
        self.assertEqual(lexemes("a12345678901;"), [("word", "a12345678901", 0), ("sign", ";", 12)])
        self.wrong("abcdefghijklm", 0)
        self.wrong(" ab abcdefghijkl9", 4)
        self.wrong("12abcdefghijklm", 2)

    def test_wrong_characters(self):
        for code in range(9, 127):
            sign = chr(code)
            text = "ab 1 " + sign
            if sign in " \n{}()[];,/-" or "a" <= sign <= "z" or "0" <= sign <= "9":
                lexemes(text)
            elif code in (9, 10) or code >= 32:
                self.wrong(text, 5)
                self.wrong(sign + text, 0)
                self.wrong("ab" + sign + "cd", 2)
        self.wrong("a\tb", 1)
        self.wrong("$$", 0)

    def test_as_the_second_opinion(self):
        for text in (D_TEXT, "a12 00120 b-7/0;;(((x,y)]{", "0a0b0c", "9" * 50 + "a" * 12):
            found = [(row[1], row[2]) for row in lexemes(text)]
            self.assertEqual(found, [(match[0], match.start()) for match in LEXEME.finditer(text)])
            for sort, lexeme, place in lexemes(text):
                kind = "word" if lexeme[0].isalpha() else "numeral" if lexeme[0].isdigit() else "sign"
                self.assertEqual(sort, kind)
                self.assertEqual(text[place:place + len(lexeme)], lexeme)

    def test_great_texts_in_good_time(self):
        self.assertEqual(lexemes("9" * 200000), [("numeral", "9" * 200000, 0)])
        self.assertEqual(len(lexemes("0" * 200000)), 200000)
        self.assertEqual(len(lexemes("a 1 " * 50000)), 100000)
        self.assertEqual(lexemes(" " * 199999 + "a"), [("word", "a", 199999)])
        self.wrong("a" * 200000, 0)
        self.wrong("1" * 199999 + "$", 199999)

    def test_anew_each_time(self):
        self.assertIsNot(lexemes("a"), lexemes("a"))
        found = same_twice(self, lexemes, D_TEXT)
        self.assertIs(type(found), list)
        self.assertIs(type(found[0]), tuple)
        same_twice(self, lexemes, "a $")
