"""The errors of the package, those of later parts among them."""


class RoomError(ValueError):
    """What was told is not as it should be, or cannot be done."""


class BadText(RoomError):
    """A text has its first wrong place there."""

    def __init__(self, place):
        self.place = place


class BadTree(RoomError):
    """What should be a scene or a task as a tree has its first wrong part there."""

    def __init__(self, path):
        self.path = tuple(path)


class BadShape(RoomError):
    """What should be a piece or a shape is none; the word tells what is wrong at the path."""

    def __init__(self, path, word):
        self.path = tuple(path)
        self.word = word


class BadRing(RoomError):
    """What should be a ring is none; the word tells what is wrong, the number where."""

    def __init__(self, word, number):
        self.word = word
        self.number = number


class Flat(RoomError):
    """All points are in one line, so they have no hull."""


class BadScene(RoomError):
    """What should be a scene that fits has its first wrong part there."""

    def __init__(self, path):
        self.path = tuple(path)


class BadFrame(RoomError):
    """What should be a frame has its first wrong part there."""

    def __init__(self, path):
        self.path = tuple(path)


class BadTask(RoomError):
    """What should be a task of a scene has its first wrong part there."""

    def __init__(self, path):
        self.path = tuple(path)


class TooGreat(RoomError):
    """What is asked is too great to be looked through."""


class NoTask(RoomError):
    """A desk is asked about a task, and has none."""


class BadAct(RoomError):
    """An act cannot be done; the word tells why."""

    def __init__(self, word):
        self.word = word


class NothingDone(RoomError):
    """There is no act to take back, or to do again."""


class NameMissing(LookupError):
    """A name is not known."""


class UnknownName(NameMissing):
    """No mark has this name."""

    def __init__(self, name):
        self.name = name
