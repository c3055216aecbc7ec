import unittest

from sweptfree import errors

BRACKETS = {
    "BadText": ("place",), "BadTree": ("path",), "BadShape": ("path", "word"), "BadRing": ("word", "number"),
    "Flat": (), "BadScene": ("path",), "BadFrame": ("path",), "BadTask": ("path",), "TooGreat": (), "NoTask": (),
    "BadAct": ("word",), "NothingDone": (),
}
VALUES = (0, None, True, "word", (1, 2), [1, (2,)], {"a": 1}, 10 ** 40)


class ErrorsTest(unittest.TestCase):

    def test_bases(self):
        self.assertEqual(errors.RoomError.__bases__, (ValueError,))
        self.assertEqual(errors.NameMissing.__bases__, (LookupError,))
        self.assertEqual(errors.UnknownName.__bases__, (errors.NameMissing,))
        for name in BRACKETS:
            self.assertEqual(getattr(errors, name).__bases__, (errors.RoomError,), name)
        self.assertFalse(issubclass(errors.RoomError, LookupError))
        self.assertFalse(issubclass(errors.NameMissing, ValueError))

    def test_no_other_class(self):
        found = {name for name in vars(errors) if not name.startswith("__")}
        self.assertEqual(found, set(BRACKETS) | {"RoomError", "NameMissing", "UnknownName"})

    def test_attributes(self):
        for name, arguments in BRACKETS.items():
            for value in VALUES:
                given = [[1, value] if told == "path" else value for told in arguments]
                error = getattr(errors, name)(*given)
                kept = {told: (1, value) if told == "path" else value for told in arguments}
                self.assertEqual(vars(error), kept)
        self.assertEqual(vars(errors.UnknownName([1])), {"name": [1]})

    def test_path_is_a_tuple_and_others_stay(self):
        told = [0, 1]
        for name in ("BadTree", "BadScene", "BadFrame", "BadTask"):
            self.assertIs(type(getattr(errors, name)(told).path), tuple)
            self.assertEqual(getattr(errors, name)(()).path, ())
        error = errors.BadShape(told, told)
        self.assertEqual((error.path, error.word), ((0, 1), [0, 1]))
        self.assertIs(error.word, told)
        self.assertEqual(told, [0, 1])

    def test_caught_by_their_bases(self):
        with self.assertRaises(ValueError):
            raise errors.BadText(3)
        with self.assertRaises(LookupError):
            raise errors.UnknownName("a")
        self.assertIn("3", str(errors.BadText(3)))
