"""What the tests share: samples, values of all kinds, and slow but plain second opinions."""

import copy
import re
from fractions import Fraction
from math import gcd

SQUARE = ((0, 0), (1, 0), (1, 1), (0, 1))
D_SCENE = (
    ((0, 6),),
    (("m", (((((0, 0), (1, 0), (1, 1), (0, 1))),),), (0, 1), (0, 0)),),
    (((3, 0), (4, 0), (4, 2), (3, 2)),),
    (), (), (),
)
D_TEXT = (
    "scene {\n"
    "limits 0 6;\n"
    "mover m across 0 1 up 0 0 face [(0, 0) (1, 0) (1, 1) (0, 1)];\n"
    "walls [(3, 0) (4, 0) (4, 2) (3, 2)];\n"
    "}\n"
)
FULL_SCENE = (
    ((-10, 10), (0, 6), (-3, 1000000)),
    (
        ("arm", ((SQUARE,), (SQUARE, ((-3, -2), (0, 0), (5, 7)))), (0, 1, 0, -2), (4, 0, 1, 0)),
        ("mover", ((((0, 0), (0, 0), (0, 0)),),), (-7,), (0, 0)),
    ),
    (((3, 0), (4, 0), (4, 2), (3, 2)), ((-1, -1), (0, -1), (0, 0))),
    (("box", (SQUARE, SQUARE), ((2, 1), (6, -1))), ("at", (((9, 9), (8, 8), (7, 7)),), ((0, 0),))),
    ((0, 1), (1, None), (0, None)),
    (
        ("grip", 0, 1, 0, (2, 0), (0, -1), 3),
        ("lay", 0, 1, (6, 0), 0),
        ("turn", 1, 0, 2, (-5, 5), (SQUARE, ((0, 0), (3, 0), (0, 3))), 12),
    ),
)
FULL_TEXT = (
    "scene {\n"
    "limits -10 10, 0 6, -3 1000000;\n"
    "mover arm across 0 1 0 -2 up 4 0 1 0 face [(0, 0) (1, 0) (1, 1) (0, 1)]"
    " face [(0, 0) (1, 0) (1, 1) (0, 1)] [(-3, -2) (0, 0) (5, 7)];\n"
    "mover mover across -7 up 0 0 face [(0, 0) (0, 0) (0, 0)];\n"
    "walls [(3, 0) (4, 0) (4, 2) (3, 2)] [(-1, -1) (0, -1) (0, 0)];\n"
    "thing box [(0, 0) (1, 0) (1, 1) (0, 1)] [(0, 0) (1, 0) (1, 1) (0, 1)] at (2, 1) (6, -1);\n"
    "thing at [(9, 9) (8, 8) (7, 7)] at (0, 0);\n"
    "joined 0, 1;\n"
    "joined 1;\n"
    "joined 0;\n"
    "grip 0 takes 1 from 0 at (2, 0) offset (0, -1) price 3;\n"
    "lay 0 on 1 at (6, 0) price 0;\n"
    "turn 1 from 0 to 2 at (-5, 5) room [(0, 0) (1, 0) (1, 1) (0, 1)] [(0, 0) (3, 0) (0, 3)] price 12;\n"
    "}\n"
)
BARE_SCENE = (((5, -5),), (), (), (), (), ())
BARE_TEXT = "scene {\nlimits 5 -5;\nwalls;\n}\n"
FULL_TASK = (
    ((1, 1), (-3, 2), (0, 1)),
    ((0, ("held", 3), 2), (1, 0)),
    (("thing", 0, 1), ("mover", 2, (-4, 7)), ("mover", 0, (0, 0))),
)
FULL_TASK_TEXT = (
    "task {\n"
    "start 1, -3/2, 0;\n"
    "things 0 held 3 2;\n"
    "faces 1 0;\n"
    "thing 0 on 1;\n"
    "mover 2 at (-4, 7);\n"
    "mover 0 at (0, 0);\n"
    "}\n"
)
BARE_TASK = (((7, 3),), ((), ()), ())
BARE_TASK_TEXT = "task {\nstart 7/3;\nthings;\nfaces;\n}\n"

ANYTHING = (
    None, True, False, 0, 1, -1, 7, 10 ** 39, "", "a", "m", "held", "grip", "A1", "abcdefghijklm", "1a", "a b",
    (), (1,), (0, 1), (1, 0), (2, 4), (-1, 1), (True, 1), (1, False), (0, 0, 0), (None, None), ("held", 0),
    ("held", -1), ("held", True), ["held", 0], [], [0, 1], {}, {0: 1}, ((0, 0), (1, 0), (1, 1)), ((0, 0), (1, 0)),
    ((0, 0), (1, 0), [1, 1]),
    [(0, 0), (1, 0), (1, 1)], (((0, 0), (1, 0), (1, 1)),), ((0, 1), (1, 1)), ("grip",), ("lay", 0, 0, (0, 0), 0),
    ("thing", 0, 0), ("mover", 0, (0, 0)), ("turn", 0, 0, 0, (0, 0), (SQUARE,), 0), ((), ()), (((),),),
)
FRACTIONS = ((0, 1), (1, 1), (-1, 1), (3, 2), (-3, 2), (1, 10 ** 39), (10 ** 39 + 1, 10), (-1, 10 ** 100))
NO_FRACTIONS = (
    (0, 2), (2, 4), (1, 0), (0, 0), (1, -1), (-2, -3), (0, -1), (True, 1), (1, True), (False, 1), (1,), (1, 2, 3), (),
    [1, 2], {1: 2}, 1, None, "12", ("1", 2), (1, None), ((1, 1), 1), (10 ** 40, 10),
)
POINTS = ((0, 0), (-1, 5), (10 ** 40, 2))
NO_POINTS = (
    (0,), (), (0, 0, 0), [0, 0], (True, 0), (0, False), (None, 0), ("0", 0), ((0, 1), (0, 1)), 0, None, "ab",
    {0: 0, 1: 1},
)


def nested(depth):
    """A value that is nested so deep."""
    value = 0
    for k in range(depth):
        value = (value,) if k % 2 else [value]
    return value


def all_paths(tree):
    """All paths to parts of a tree, that to the tree itself first."""
    paths = [()]
    if isinstance(tree, tuple):
        for k, part in enumerate(tree):
            paths.extend([(k,) + path for path in all_paths(part)])
    return paths


def replaced(tree, path, part):
    """The tree with another part at a path."""
    if not path:
        return part
    k = path[0]
    return tree[:k] + (replaced(tree[k], path[1:], part),) + tree[k + 1:]


def same_twice(case, function, *args):
    """Call a function twice, and see that it answers the same and leaves its arguments as they are."""
    before = copy.deepcopy(args)
    first = outcome(function, *args)
    case.assertEqual(repr(args), repr(before))
    case.assertEqual(repr(outcome(function, *copy.deepcopy(args))), repr(first))
    return first


def outcome(function, *args):
    """What a function returns, or the class and the attributes of the error that it raises."""
    try:
        return function(*args)
    except (ValueError, LookupError) as error:
        return (type(error).__name__, vars(error))


# The forms, as the document has them in S1.4; ABOVE stands for a NUMERAL other than 0.
FORMS = {
    "SCENE": "scene { limits INT INT MORE* ; MOVER* walls PIECE* ; THING* JOINED* DEED* }",
    "MORE": ", INT INT",
    "MOVER": "mover NAME across INT INT* up INT INT* FACE FACE* ;",
    "FACE": "face PIECE PIECE*",
    "THING": "thing NAME PIECE PIECE* at POINT POINT* ;",
    "JOINED": "joined NUMERAL ; | joined NUMERAL , NUMERAL ;",
    "DEED": "grip NUMERAL takes NUMERAL from NUMERAL at POINT offset POINT price NUMERAL ;"
            " | lay NUMERAL on NUMERAL at POINT price NUMERAL ;"
            " | turn NUMERAL from NUMERAL to NUMERAL at POINT room PIECE PIECE* price NUMERAL ;",
    "TASK": "task { start FRACTION REST* ; things HOLD* ; faces NUMERAL* ; GOAL* }",
    "REST": ", FRACTION",
    "HOLD": "NUMERAL | held NUMERAL",
    "GOAL": "thing NUMERAL on NUMERAL ; | mover NUMERAL at POINT ;",
    "INT": "NUMERAL | - ABOVE",
    "FRACTION": "INT | INT / NUMERAL",
    "POINT": "( INT , INT )",
    "PIECE": "[ POINT POINT POINT POINT* ]",
}


class Machine:
    """A machine of states for a form, told by its text: a second opinion on where a text goes wrong."""

    def __init__(self, form):
        self.free = []
        self.steps = []
        self.start = self.state()
        self.end = self.state()
        self.build(form, self.start, self.end)
        self.closings = [self.closing(k) for k in range(len(self.free))]

    def state(self):
        self.free.append([])
        self.steps.append([])
        return len(self.free) - 1

    def build(self, form, start, end):
        if form not in FORMS:
            self.steps[start].append((form, end))
            return
        for choice in FORMS[form].split(" | "):
            at = start
            for part in choice.split():
                after = self.state()
                if part.endswith("*"):
                    loop = self.state()
                    self.free[at].append(loop)
                    self.build(part[:-1], loop, loop)
                    self.free[loop].append(after)
                else:
                    fresh = self.state()
                    self.free[at].append(fresh)
                    self.build(part, fresh, after)
                at = after
            self.free[at].append(end)

    def closing(self, state):
        found, row = {state}, [state]
        while row:
            for after in self.free[row.pop()]:
                if after not in found:
                    found.add(after)
                    row.append(after)
        return found

    def behind(self, states, lexeme):
        found = set()
        for state in states:
            for form, after in self.steps[state]:
                if fits(form, lexeme):
                    found |= self.closings[after]
        return found


def fits(form, lexeme):
    if form == "NAME":
        return lexeme[0].isalpha()
    if form == "NUMERAL":
        return lexeme[0].isdigit()
    if form == "ABOVE":
        return lexeme[0].isdigit() and lexeme != "0"
    return form == lexeme


MACHINES = {}
LEXEME = re.compile("[a-z][a-z0-9]*|0|[1-9][0-9]*|[][{}();,/-]")


def first_wrong_place(text, form):
    """The first wrong place of a text by S1.5, or None if it has the form."""
    if form not in MACHINES:
        MACHINES[form] = Machine(form)
    machine = MACHINES[form]
    states = machine.closings[machine.start]
    at = 0
    while at < len(text):
        if text[at] in " \n":
            at += 1
            continue
        found = LEXEME.match(text, at)
        if not found or (found[0][0].isalpha() and len(found[0]) > 12):
            return at
        states = machine.behind(states, found[0])
        if not states:
            return at
        at = found.end()
    return None if machine.end in states else len(text)


def in_lexemes(text):
    """The lexemes of a right text."""
    return LEXEME.findall(text)


def as_fraction(pair):
    return Fraction(pair[0], pair[1])


def as_pair(fraction):
    return (fraction.numerator, fraction.denominator)


def turn(a, b, p):
    """The doubled area to the left of the way a, b, p, of points of any numbers."""
    return (b[0] - a[0]) * (p[1] - a[1]) - (b[1] - a[1]) * (p[0] - a[0])


def sides_of(corners):
    return [(corners[k], corners[(k + 1) % len(corners)]) for k in range(len(corners))]


class Numbers:
    """A plain row of numbers, the same at each run."""

    def __init__(self, seed):
        self.now = seed * 7919 + 12345

    def below(self, most):
        self.now = (self.now * 6364136223846793005 + 1442695040888963407) % 2 ** 64
        return (self.now >> 33) % most

    def between(self, low, high):
        return low + self.below(high - low + 1)

    def choice(self, row):
        return row[self.below(len(row))]


def area_of(corners):
    """Twice the area within corners of any numbers, below 0 if they go round to the right."""
    return sum(a[0] * b[1] - b[0] * a[1] for a, b in sides_of(corners))


def common_area(corners, piece):
    """Twice the area that any corners have in common with a piece, exactly, by cutting off edge after edge."""
    corners = [(Fraction(x), Fraction(y)) for x, y in corners]
    for a, b in sides_of(piece):
        kept = []
        for p, q in sides_of(corners):
            at_p, at_q = turn(a, b, p), turn(a, b, q)
            if at_p >= 0:
                kept.append(p)
            if at_p * at_q < 0:
                t = at_p / (at_p - at_q)
                kept.append((p[0] + (q[0] - p[0]) * t, p[1] + (q[1] - p[1]) * t))
        corners = kept
    return abs(area_of(corners))


def place_in(piece, x, y):
    """Where a point of any numbers is."""
    turns = [turn(a, b, (x, y)) for a, b in sides_of(piece)]
    return "outside" if min(turns) < 0 else "edge" if min(turns) == 0 else "inside"


def is_right_piece(value):
    """Whether points are a piece: another way than by sides alone, by all triples of corners."""
    many = len(value)
    triples = [(i, j, k) for i in range(many) for j in range(i + 1, many) for k in range(j + 1, many)]
    return all(turn(value[i], value[j], value[k]) > 0 for i, j, k in triples) and value[0] == min(value)


def some_piece(numbers, size, most=9):
    """A piece within a square of so many steps to each side."""
    while True:
        points = [(numbers.between(-size, size), numbers.between(-size, size)) for _ in range(numbers.between(3, most))]
        piece = slow_hull(points)
        if piece:
            return piece


def slow_hull(points):
    """The hull by going from its least corner to the one that has all others to its left, or None."""
    points = sorted(set(points))
    corners = points[:1]
    while True:
        at = corners[-1]
        best = None
        for p in points:
            if p != at:
                side = 0 if best is None else turn(at, best, p)
                far = best is not None and side == 0 and far_from(at, p) > far_from(at, best)
                if best is None or side < 0 or far:
                    best = p
        if best is None or best == corners[0]:
            break
        corners.append(best)
    return tuple(corners) if len(corners) > 2 else None


def far_from(a, b):
    return (a[0] - b[0]) ** 2 + (a[1] - b[1]) ** 2


def from_least(corners):
    k = corners.index(min(corners))
    return tuple(corners[k:] + corners[:k])


def round_piece(many):
    """A piece of so many corners, an even number, with its steps in all directions."""
    steps = [(x, y) for x in range(1, 12) for y in range(-12, 12) if x + abs(y) < 14]
    chosen = {}
    for x, y in steps:
        chosen.setdefault(Fraction(y, x), (x, y))
    row = [chosen[slope] for slope in sorted(chosen)][:many // 2]
    corners = [(0, 0)]
    for x, y in row + [(-x, -y) for x, y in row]:
        corners.append((corners[-1][0] + x, corners[-1][1] + y))
    return from_least(tuple(corners[:-1]))


Y_SCENE = (
    ((0, 10), (0, 6)),
    (("arm", ((((0, 0), (2, 0), (2, 2), (0, 2)),),), (0, 1, 0), (0, 0, 1)),),
    (((4, 0), (6, 0), (6, 4), (4, 4)),),
    (), (), (),
)
BOX = ((0, 0), (2, 0), (2, 2), (0, 2))
WEDGE = ((0, 0), (2, 0), (0, 2))
# An arm on a rail, joined to the walls; a hand that hangs on it; a cart below; two things; deeds of all three kinds.
R_SCENE = (
    ((-5, 20), (0, 8), (-3, 30)),
    (
        ("arm", ((((0, 0), (4, 0), (4, 1), (0, 1)),), (WEDGE, BOX)), (0, 1, 0, 0), (10, 0, 0, 0)),
        ("hand", ((SQUARE,), (BOX,), (WEDGE, ((3, 0), (4, 0), (4, 1)))), (1, 1, 0, 0), (9, 0, -1, 0)),
        ("cart", ((BOX, ((2, 0), (5, 0), (5, 1), (2, 1))),), (3, 0, 0, 2), (-3, 0, 0, 0)),
    ),
    (((-9, 11), (30, 11), (30, 12), (-9, 12)), ((8, -1), (9, -1), (9, 3), (8, 3))),
    (
        ("box", (SQUARE,), ((2, 1), (6, 1), (11, 3))),
        ("rod", (((0, 0), (3, 0), (3, 1)), ((1, 2), (2, 2), (2, 5))), ((0, 0), (14, 0))),
    ),
    ((0, 1), (0, None)),
    (
        ("grip", 1, 0, 0, (2, 2), (0, -1), 3),
        ("lay", 0, 2, (11, 4), 2),
        ("grip", 2, 1, 1, (12, -3), (2, 3), 0),
        ("grip", 1, 1, 0, (0, 1), (0, -1), 10 ** 6),
        ("turn", 1, 0, 2, (5, 5), (((0, 0), (4, 0), (4, 2), (0, 2)), ((-1, -1), (0, -1), (0, 0))), 5),
        ("lay", 2, 0, (-2, -3), 1),
        ("turn", 0, 1, 0, (2, 10), (BOX,), 0),
        ("grip", 2, 0, 1, (5, -3), (1, 4), 7),
    ),
)
R_MODES = (
    ((0, 0), (0, 0, 0)), ((2, 1), (1, 2, 0)), ((("held", 0), 0), (0, 1, 0)), ((1, ("held", 3)), (0, 2, 0)),
    ((("held", 0), ("held", 2)), (1, 0, 0)), ((("held", 7), ("held", 3)), (0, 0, 0)), ((("held", 7), 1), (1, 1, 0)),
)


def some_shape(numbers, size, most=2):
    return tuple(some_piece(numbers, size, 6) for _ in range(numbers.between(1, most)))


def some_scene(numbers, sliders=None):
    """A small scene that fits, with all kinds of parts."""
    sliders = sliders or numbers.between(1, 3)
    lows = [numbers.between(-6, 2) for _ in range(sliders)]
    limits = tuple((low, low + numbers.between(1, 12)) for low in lows)
    movers = tuple(
        (name, tuple(some_shape(numbers, 2) for _ in range(numbers.between(1, 2))),
         tuple(numbers.between(-2, 2) for _ in range(sliders + 1)),
         tuple(numbers.between(-2, 2) for _ in range(sliders + 1)))
        for name in "abc"[:numbers.between(1, 3)])
    things = tuple(
        (name, some_shape(numbers, 1),
         tuple(dict.fromkeys((numbers.between(-4, 4), numbers.between(-4, 4)) for _ in range(3))))
        for name in "tuv"[:numbers.between(0, 3)])
    pairs = [(m, n) for m in range(len(movers)) for n in list(range(m + 1, len(movers))) + [None]]
    joined = tuple(pair for pair in pairs if numbers.below(4) == 0)
    walls = some_shape(numbers, 3) if numbers.below(3) else ()
    return (limits, movers, walls, things, joined, tuple(some_deeds(numbers, movers, things)))


def some_deeds(numbers, movers, things):
    deeds = []
    for k in range(numbers.between(1, 8)):
        m = numbers.below(len(movers))
        offset = (numbers.between(-2, 2), numbers.between(-2, 2))
        grips = [n for n, deed in enumerate(deeds) if deed[0] == "grip"]
        if len(movers[m][1]) > 1 and numbers.below(3) == 0:
            face = numbers.below(2)
            place = (numbers.between(-3, 3), numbers.between(-3, 3))
            deeds.append(("turn", m, face, 1 - face, place, some_shape(numbers, 2), k))
        elif grips and numbers.below(2):
            g = numbers.choice(grips)
            spot = numbers.below(len(things[deeds[g][2]][2]))
            x, y = things[deeds[g][2]][2][spot]
            deeds.append(("lay", g, spot, (x - deeds[g][5][0], y - deeds[g][5][1]), k))
        elif things:
            t = numbers.below(len(things))
            spot = numbers.below(len(things[t][2]))
            x, y = things[t][2][spot]
            deeds.append(("grip", m, t, spot, (x - offset[0], y - offset[1]), offset, k))
    return deeds


def some_mode(numbers, scene):
    """A mode, in which movers often hold things."""
    lies, holders = [], set()
    for t, thing in enumerate(scene[3]):
        grips = [g for g, deed in enumerate(scene[5])
                 if deed[0] == "grip" and deed[2] == t and deed[1] not in holders]
        if grips and numbers.below(3):
            g = numbers.choice(grips)
            holders.add(scene[5][g][1])
            lies.append(("held", g))
        else:
            lies.append(numbers.below(len(thing[2])))
    return (tuple(lies), tuple(numbers.below(len(mover[1])) for mover in scene[1]))


def some_standing(numbers, scene):
    """A standing that is often, but not always, within the limits, and often such that bodies touch."""
    parts = []
    for low, high in scene[0]:
        below = numbers.choice((1, 1, 1, 2, 2, 3))
        parts.append(as_pair(Fraction(numbers.between((low - 1) * below, (high + 1) * below), below)))
    return tuple(parts)


def slow_place(scene, mode, mark, q):
    """The point of numbers at which the body with a mark is laid at a standing of numbers."""
    if mark[0] == 2:
        return (Fraction(0), Fraction(0))
    m, dx, dy = mark[1], 0, 0
    if mark[0] == 1:
        lie = mode[0][mark[1]]
        if type(lie) is int:
            x, y = scene[3][mark[1]][2][lie]
            return (Fraction(x), Fraction(y))
        m, (dx, dy) = scene[5][lie[1]][1], scene[5][lie[1]][5]
    across, up = scene[1][m][2:]
    return tuple(numbers[0] + step + sum((c * x for c, x in zip(numbers[1:], q)), Fraction(0))
                 for numbers, step in ((across, dx), (up, dy)))


def slow_shape(scene, mode, mark):
    if mark[0] == 0:
        return scene[1][mark[1]][1][mode[1][mark[1]]]
    return scene[3][mark[1]][1] if mark[0] == 1 else scene[2]


def slow_marks(scene):
    return ([(0, m) for m in range(len(scene[1]))] + [(1, t) for t in range(len(scene[3]))] + [(2, 0)])


def slow_looked_at(scene, mode):
    """The pairs of marks that are looked at: all, less those that the document takes away."""
    left = []
    held = {t: scene[5][lie[1]][1] for t, lie in enumerate(mode[0]) if type(lie) is tuple}
    marks = slow_marks(scene)
    for one in marks:
        for other in marks:
            moves = [mark[0] == 0 or (mark[0] == 1 and mark[1] in held) for mark in (one, other)]
            holds = one[0] == 0 and other[0] == 1 and held.get(other[1]) == one[1]
            joined = one[0] == 0 and (
                (other[0] == 0 and (one[1], other[1]) in scene[4]) or (other[0] == 2 and (one[1], None) in scene[4]))
            if one < other and any(moves) and not holds and not joined:
                left.append((one, other))
    return left


def moved_by(piece, by):
    return tuple((x + by[0], y + by[1]) for x, y in piece)


def laid(shape, place):
    return [tuple((x + place[0], y + place[1]) for x, y in piece) for piece in shape]


def slow_body_relation(some, others):
    """How two lists of laid pieces are to each other: by the areas they share, then by corners on edges."""
    near = [(a, b) for a in some for b in others if not are_far(a, b)]
    if any(common_area(a, b) for a, b in near):
        return "meet"
    for a, b in near:
        if any(place_in(b, *p) != "outside" for p in a) or any(place_in(a, *p) != "outside" for p in b):
            return "touch"
    return "clear"


def are_far(some, others):
    """Whether all corners of the one are farther left, right, up or down than all of the other."""
    for k in (0, 1):
        one, other = [p[k] for p in some], [p[k] for p in others]
        if max(one) < min(other) or max(other) < min(one):
            return True
    return False


def numbers_of(standing):
    return tuple(as_fraction(part) for part in standing)


def slow_relation_at(scene, mode, standing, one, other):
    q = numbers_of(standing)
    return slow_body_relation(laid(slow_shape(scene, mode, one), slow_place(scene, mode, one, q)),
                              laid(slow_shape(scene, mode, other), slow_place(scene, mode, other, q)))


def slow_value(form, q):
    return form[0] + sum((c * x for c, x in zip(form[1:], q)), Fraction(0))


def sign(number):
    return (number > 0) - (number < 0)


def some_row(numbers, sliders, size, sorts=("over", "from", "from", "null")):
    return (numbers.choice(sorts), tuple(numbers.between(-size, size) for _ in range(sliders + 1)))


def some_system(numbers, most=8):
    """A system of a few rows, and its number of sliders; the numbers are mostly small."""
    sliders = numbers.between(1, 3)
    size = numbers.choice((1, 2, 2, 5, 10 ** 20))
    sorts = numbers.choice((("over", "from"), ("from",), ("over", "from", "from", "from", "null"), ("over",)))
    return [some_row(numbers, sliders, size, sorts) for _ in range(numbers.between(0, most))], sliders


def slow_keeps(rows, point):
    """Whether a point of numbers keeps all rows."""
    for sort, form in rows:
        value = slow_value(form, point)
        if not (value > 0 if sort == "over" else value >= 0 if sort == "from" else value == 0):
            return False
    return True


def slow_never_fault(rows, numbers):
    """The first fault of a tuple of as many integers as there are rows, by the words of S5.2."""
    for k, (sort, _) in enumerate(rows):
        if sort != "null" and numbers[k] < 0:
            return ("sign", k)
    many = max([len(form) for _, form in rows], default=1)
    total = [sum(number * form[k] for number, (_, form) in zip(numbers, rows)) for k in range(many)]
    if any(total[1:]):
        return ("sum",)
    counts = any(number > 0 and sort == "over" for number, (sort, _) in zip(numbers, rows))
    return None if total[0] < 0 or (total[0] == 0 and counts) else ("number",)


def surely_has_point(rows, sliders):
    """Whether a system has a point, by what solve tells, which is looked through here."""
    from sweptfree.systems import solve
    word, told = solve(rows, sliders)
    assert type(told) is tuple
    if word == "point":
        assert len(told) == sliders and slow_keeps(rows, [as_fraction(x) for x in told]), (rows, told)
        assert all(as_pair(as_fraction(x)) == x for x in told)
        return True
    assert word == "never" and len(told) == len(rows) and all(type(n) is int for n in told)
    assert slow_never_fault(rows, told) is None, (rows, told)
    return False


E_FRAME = (((0, 4), (0, 4)), ((-4, 0, 1), (-4, 1, 0), (-4, 1, 1), (0, 0, 1), (0, 1, 0)))


def frame_with(limits, forms):
    """A frame with such limits and forms, put together here."""
    told = set(forms)
    for k, (low, high) in enumerate(limits):
        for n in (low, high):
            told.add((-n,) + tuple(int(j == k) for j in range(len(limits))))
    return (limits, tuple(sorted(told)))


def some_form(numbers, sliders, size):
    """A form with rather small numbers, in its one shape."""
    while True:
        row = [numbers.between(-size, size) for _ in range(sliders + 1)]
        first = [n for n in row[1:] if n]
        if first:
            divisor = gcd(*row) * sign(first[0])
            return tuple(n // divisor for n in row)


def some_frame(numbers, most=(9, 8, 4)):
    """A small frame of one to three sliders."""
    sliders = numbers.between(1, 3)
    lows = [numbers.between(-4, 0) for _ in range(sliders)]
    limits = tuple((low, low + numbers.between(1, 6)) for low in lows)
    size = numbers.choice((1, 2, 4))
    return frame_with(limits, [some_form(numbers, sliders, size) for _ in range(numbers.between(0, most[sliders - 1]))])


def upright_frame(sliders, many):
    """A frame of so many upright forms, as evenly for each slider as can be."""
    limits = ((0, 100),) * sliders
    forms = []
    for k in range(many - 2 * sliders):
        forms.append((-k - 1,) + tuple(int(j == k % sliders) for j in range(sliders)))
    return frame_with(limits, forms)


def slow_signs(frame, q):
    return tuple(sign(slow_value(form, q)) for form in frame[1])


def rows_of_signs(frame, signs):
    """The system that asks of a point to have a row of signs, as far as it goes, and to be within the limits."""
    rows = []
    for k, (low, high) in enumerate(frame[0]):
        step = tuple(int(j == k) for j in range(len(frame[0])))
        rows.append(("from", (-low,) + step))
        rows.append(("from", (high,) + tuple(-n for n in step)))
    for form, told in zip(frame[1], signs):
        rows.append(("null", form) if told == 0 else ("over", tuple(told * n for n in form)))
    return rows


def slow_cells(frame):
    """All cells, ascending: row by row of signs, each looked for by a point or by multipliers."""
    found = [()]
    for _ in frame[1]:
        found = [signs + (n,) for signs in found for n in (-1, 0, 1)
                 if surely_has_point(rows_of_signs(frame, signs + (n,)), len(frame[0]))]
    return found


def slow_rank(rows, many):
    """The rank of rows of so many numbers, by fractions."""
    rows = [[Fraction(n) for n in row] for row in rows]
    found = 0
    for k in range(many):
        heads = [row for row in rows if row[k]]
        if heads:
            head = heads[0]
            found += 1
            rows = [[n - row[k] / head[k] * m for n, m in zip(row, head)] for row in rows if row is not head]
    return found


def slow_cell_dimension(frame, signs):
    many = len(frame[0])
    return many - slow_rank([form[1:] for form, n in zip(frame[1], signs) if n == 0], many)


def slow_underlies(one, other):
    return all(a in (0, b) for a, b in zip(one, other))


def slow_beside(frame, cells):
    """For each cell the ascending lists of its faces and of its cofaces."""
    dimensions = {cell: slow_cell_dimension(frame, cell) for cell in cells}
    beside = {cell: ([], []) for cell in cells}
    for one in cells:
        for other in cells:
            if dimensions[one] == dimensions[other] - 1 and slow_underlies(one, other):
                beside[one][1].append(other)
                beside[other][0].append(one)
    return beside


def some_shape_of(form):
    """A form in its one shape."""
    divisor = gcd(*form) * sign([n for n in form[1:] if n][0])
    return tuple(n // divisor for n in form)


def some_contacts(numbers, frame, most):
    """Contacts whose forms are in a frame, perhaps with a form on both sides, perhaps ()."""
    rows = []
    for _ in range(numbers.between(0, most)):
        pairs = {(numbers.choice(frame[1]), numbers.choice((-1, 1))) for _ in range(numbers.between(1, 4))}
        rows.append(tuple(sorted(pairs)))
    if numbers.below(12) == 0:
        rows.append(())
    return rows


def parting_contacts(numbers, frame):
    """Contacts that bar a cell each, and what is around it: so the room often falls apart."""
    from sweptfree.cells import all_cells
    rows = []
    cells = all_cells(frame)
    for _ in range(numbers.between(1, 9)):
        signs = slow_signs_of(frame, numbers.choice(cells))
        pairs = [(form, signs[form]) for form in signs if signs[form] and numbers.below(3)]
        rows.append(tuple(sorted(pairs)))
    return [row for row in rows if row]


def slow_signs_of(frame, signs):
    return dict(zip(frame[1], signs))


def slow_bars(frame, contact, signs):
    told = slow_signs_of(frame, signs)
    return [told[form] for form, _ in contact] == [side for _, side in contact]


def slow_apart(frame, contact, signs):
    told = slow_signs_of(frame, signs)
    return 0 in [told[form] + side for form, side in contact]


def slow_lots(frame, cells):
    """The lots of cells, by putting them together as long as two are beside each other."""
    beside = slow_beside(frame, cells)
    number = {cell: k for k, cell in enumerate(cells)}
    changes = True
    while changes:
        changes = False
        for cell in cells:
            for other in beside[cell][1]:
                least = min(number[cell], number[other])
                if number[cell] != least or number[other] != least:
                    number[cell] = number[other] = least
                    changes = True
    return sorted(tuple(cell for cell in cells if number[cell] == k) for k in set(number.values()))


def slow_slack(contact, q):
    """The slack of a contact other than () at a standing of numbers."""
    return max(-side * slow_value(form, q) for form, side in contact)


def turning_moments(contact, q, r):
    """0, 1, and all moments of a leg at which a pair is nought, or two pairs are equal, ascending."""
    first, last = numbers_of(q), numbers_of(r)
    lines = [(-side * slow_value(form, first), -side * slow_value(form, last)) for form, side in contact]
    moments = {Fraction(0), Fraction(1)}
    for a, b in lines:
        for c, d in lines + [(0, 0)]:
            if b - a != d - c:
                moments.add(Fraction(c - a) / (b - a - d + c))
    return sorted(t for t in moments if 0 <= t <= 1)


def some_contact(numbers, sliders):
    """A contact of a few pairs with small forms, now and then ()."""
    pairs = {(some_form(numbers, sliders, numbers.choice((1, 3))), numbers.choice((-1, 1)))
             for _ in range(numbers.choice((0, 1, 2, 3, 4, 5, 6)))}
    return tuple(sorted(pairs))


def near_standing(numbers, sliders, size=4):
    """A standing not far from nought."""
    return tuple(as_pair(Fraction(numbers.between(-2 * size, 2 * size), numbers.choice((1, 2, 2, 3))))
                 for _ in range(sliders))


# The scene Z of part 8, without its wall and with it.
Z_SCENE = (
    ((0, 8),), (("m", ((SQUARE,),), (0, 1), (0, 0)),), (), (("t", (SQUARE,), ((2, 1), (6, 1))),), (),
    (("grip", 0, 0, 0, (2, 0), (0, 1), 3), ("lay", 0, 1, (6, 0), 2)),
)
Z_WALLED = replaced(Z_SCENE, (2,), (((4, 1), (5, 1), (5, 2), (4, 2)),))
Z_TASK = (((1, 1),), ((0,), (0,)), (("thing", 0, 1),))
Z_PLAN = (("go", ((2, 1),)), ("deed", 0), ("go", ((6, 1),)), ("deed", 1))


def slow_is_free(scene, mode, standing):
    """Whether a standing is free, by areas."""
    if not all(low <= x <= high for (low, high), x in zip(scene[0], numbers_of(standing))):
        return False
    return all(slow_relation_at(scene, mode, standing, *pair) != "meet" for pair in slow_looked_at(scene, mode))


def slow_mode_behind(scene, mode, number):
    """The mode behind a deed, or None, by the words of S8.2."""
    deed = scene[5][number]
    lies, faces = list(mode[0]), list(mode[1])
    holders = [scene[5][lie[1]][1] for lie in lies if type(lie) is tuple]
    if deed[0] == "lay":
        t = scene[5][deed[1]][2]
        if lies[t] != ("held", deed[1]):
            return None
        lies[t] = deed[2]
    elif deed[0] == "grip":
        if lies[deed[2]] != deed[3] or deed[1] in holders:
            return None
        lies[deed[2]] = ("held", number)
    else:
        if faces[deed[1]] != deed[2] or deed[1] in holders:
            return None
        faces[deed[1]] = deed[3]
    return (tuple(lies), tuple(faces))


def slow_stands(scene, mover, point, standing):
    """Whether a mover is at a point at a standing."""
    across, up = scene[1][mover][2:]
    q = numbers_of(standing)
    return tuple(c[0] + sum((n * x for n, x in zip(c[1:], q)), Fraction(0)) for c in (across, up)) == point


def slow_room_is_empty(scene, mode, standing, deed):
    """Whether no body that counts meets the room of a turn."""
    _, m, _, _, place, room, _ = deed
    q = numbers_of(standing)
    for mark in slow_marks(scene):
        if mark[0] == 0 and (mark[1] == m or tuple(sorted((m, mark[1]))) in scene[4]):
            continue
        if mark[0] == 2 and (m, None) in scene[4]:
            continue
        other = laid(slow_shape(scene, mode, mark), slow_place(scene, mode, mark, q))
        if slow_body_relation(laid(room, place), other) == "meet":
            return False
    return True


def slow_deed_word(scene, mode, standing, number):
    """The word with which a deed cannot be done, by areas, or None."""
    deed = scene[5][number]
    behind = slow_mode_behind(scene, mode, number)
    if behind is None:
        return "mode"
    mover, place = (scene[5][deed[1]][1], deed[3]) if deed[0] == "lay" else (deed[1], deed[4])
    if not slow_stands(scene, mover, place, standing):
        return "place"
    if not slow_is_free(scene, mode, standing):
        return "free"
    if not slow_is_free(scene, behind, standing):
        return "behind"
    if deed[0] == "turn" and not slow_room_is_empty(scene, mode, standing, deed):
        return "room"
    return None


def standing_for(numbers, scene, number):
    """A standing at which the mover of a deed stands at its place, if a small search finds one, or any standing."""
    deed = scene[5][number]
    mover, place = (scene[5][deed[1]][1], deed[3]) if deed[0] == "lay" else (deed[1], deed[4])
    for _ in range(60):
        standing = some_standing(numbers, scene)
        if slow_stands(scene, mover, place, standing):
            return standing
    return some_standing(numbers, scene)


def some_goal(numbers, scene):
    """A goal of either sort, often one that is met."""
    if scene[3] and numbers.below(2):
        t = numbers.below(len(scene[3]))
        return ("thing", t, numbers.below(len(scene[3][t][2])))
    return ("mover", numbers.below(len(scene[1])), (numbers.between(-2, 2), numbers.between(-2, 2)))


def some_rail_scene(numbers, sliders=None):
    """A scene of movers on rails that can carry things and turn, so that there is often a way to do something."""
    sliders = sliders or numbers.choice((1, 1, 1, 2))
    width = numbers.between(4, 9)
    tall = (((0, 0), (1, 0), (1, 2), (0, 2)),)
    faces = numbers.choice((((SQUARE,),), ((SQUARE,), tall), ((SQUARE,), (BOX,))))
    rest = (0,) * (sliders - 1)
    movers = [("m", faces, (0, 1) + rest, (0, 0) + (numbers.below(2),) * (sliders - 1))]
    if numbers.below(3) == 0:
        movers.append(("n", ((SQUARE,),), (numbers.between(-3, 3), numbers.choice((-1, 1))) + rest,
                       (numbers.between(-1, 2),) + (0,) + (numbers.below(2),) * (sliders - 1)))
    things, deeds = [], []
    for t in range(numbers.choice((1, 1, 2))):
        height = numbers.between(1, 2)
        spots = tuple(dict.fromkeys((numbers.between(0, width), height) for _ in range(numbers.between(1, 3))))
        things.append(("tu"[t], (SQUARE,), spots))
        for k, (x, y) in enumerate(spots):
            g = len(deeds)
            offset = (0, numbers.choice((y, y, 1)))
            deeds.append(("grip", 0, t, k, (x, y - offset[1]), offset, numbers.below(4)))
            for late, (u, v) in enumerate(spots):
                if late != k and numbers.below(4):
                    deeds.append(("lay", g, late, (u, v - offset[1]), numbers.below(4)))
    for face in range(len(faces)):
        if len(faces) == 2:
            deeds.append(("turn", 0, face, 1 - face, (numbers.between(0, width), 0), (BOX,), numbers.below(4)))
    walls = []
    if numbers.below(3):
        x, y = numbers.between(0, width), numbers.choice((1, 2, 2, 3))
        walls.append(((x, y), (x + 1, y), (x + 1, y + 1), (x, y + 1)))
    limits = ((0, width),) + ((0, 2),) * (sliders - 1)
    joined = ((0, 1),) if len(movers) == 2 and numbers.below(2) else ()
    return (limits, tuple(movers), tuple(walls), tuple(things), joined, tuple(deeds))


def some_rail_task(numbers, scene):
    """A task of such a scene that is free at its start, or None if none is found."""
    for _ in range(8):
        start = tuple(as_pair(Fraction(numbers.between(low * 2, high * 2), 2)) for low, high in scene[0])
        mode = ((0,) * len(scene[3]), (0,) * len(scene[1]))
        if slow_is_free(scene, mode, start):
            t = numbers.below(len(scene[3]))
            goals = [("thing", t, numbers.below(len(scene[3][t][2])))]
            if numbers.below(3) == 0:
                goals.append(("mover", 0, (numbers.between(0, scene[0][0][1]), numbers.choice((0, 0, 0, 1)))))
            return (start, mode, tuple(goals[numbers.below(2):] if len(goals) == 2 else goals))
    return None


def rail_tasks(seed, many, sliders=None):
    """A list of pairs (scene, task) that are not too great."""
    from sweptfree.errors import TooGreat
    from sweptfree.frames import refuse_too_great
    from sweptfree.nodes import task_frame
    numbers = Numbers(seed)
    found = []
    while len(found) < many:
        scene = some_rail_scene(numbers, sliders)
        task = some_rail_task(numbers, scene)
        if task is not None:
            try:
                refuse_too_great(task_frame(scene, task))
                found.append((scene, task))
            except TooGreat:
                pass
    return found


def slow_modes(scene, mode):
    """The set of all modes behind deeds."""
    found = {mode}
    while True:
        behind = {slow_mode_behind(scene, one, n) for one in found for n in range(len(scene[5]))} - {None}
        if behind <= found:
            return found
        found |= behind


def slow_task_frame(scene, task):
    """The frame of a task by the words of S8.4."""
    from sweptfree.bars import bars_of, place_forms, room_bars
    forms = set()
    places = [(goal[1], goal[2]) for goal in task[2] if goal[0] == "mover"]
    for mode in slow_modes(scene, task[1]):
        contacts = bars_of(scene, mode)
        for n, deed in enumerate(scene[5]):
            if slow_mode_behind(scene, mode, n) is not None:
                places.append((scene[5][deed[1]][1], deed[3]) if deed[0] == "lay" else (deed[1], deed[4]))
                if deed[0] == "turn":
                    contacts = contacts + room_bars(scene, mode, n)
        forms |= {form for contact in contacts for form, _ in contact}
    for mover, point in places:
        forms |= set(place_forms(scene, mover, point) or [])
    return frame_with(scene[0], forms)


class SlowNodes:
    """All nodes of a task, and all moves, told by standings: what can be done at one that has the node."""

    def __init__(self, scene, task):
        from sweptfree.cells import all_cells, point_in
        self.scene, self.task = scene, task
        self.frame = slow_task_frame(scene, task)
        self.cells = all_cells(self.frame)
        self.points = {cell: point_in(self.frame, cell) for cell in self.cells}
        self.beside = slow_beside(self.frame, self.cells)
        self.modes = sorted(slow_modes(scene, task[1]), key=lambda mode: self.numbers(mode))
        self.order = {mode: k for k, mode in enumerate(self.modes)}
        self.free = {}
        self.known = {}
        self.start = (task[1], slow_signs(self.frame, numbers_of(task[0])))

    def numbers(self, mode):
        lies = [lie if type(lie) is int else len(thing[2]) + lie[1] for lie, thing in zip(mode[0], self.scene[3])]
        return lies + list(mode[1])

    def is_node(self, node):
        if node not in self.free:
            mode, cell = node
            self.free[node] = cell in self.points and slow_is_free(self.scene, mode, self.points[cell])
        return self.free[node]

    def moves(self, node):
        """The list of the moves (node, price, deed) from a node."""
        mode, cell = node
        found = [((mode, other), 0, None) for lot in self.beside[cell] for other in lot if self.is_node((mode, other))]
        for n, deed in enumerate(self.scene[5]):
            behind = slow_mode_behind(self.scene, mode, n)
            if behind is not None and self.can_do(node, (behind, cell), deed):
                found.append(((behind, cell), deed[-1], n))
        return found

    def can_do(self, node, behind, deed):
        """Whether a deed that fits can be done at a node."""
        standing = self.points[node[1]]
        mover, place = (self.scene[5][deed[1]][1], deed[3]) if deed[0] == "lay" else (deed[1], deed[4])
        if not slow_stands(self.scene, mover, place, standing) or not self.is_node(node) or not self.is_node(behind):
            return False
        return deed[0] != "turn" or slow_room_is_empty(self.scene, node[0], standing, deed)

    def sort(self, nodes):
        return sorted(nodes, key=lambda node: (self.order[node[0]], node[1]))

    def next_to(self, node):
        return self.sort({other for other, _, _ in self.moves_once(node)})

    def is_goal(self, node):
        mode, cell = node
        for word, number, aim in self.task[2]:
            if word == "thing" and mode[0][number] != aim:
                return False
            if word == "mover" and not slow_stands(self.scene, number, aim, self.points[cell]):
                return False
        return True

    def least(self, price_of=lambda deed, price: price):
        """For each node to which one comes its least price, by going over all moves until nothing changes."""
        least = {self.start: 0}
        row = [self.start]
        while row:
            node = row.pop(0)
            for other, price, deed in self.moves_once(node):
                price = price if deed is None else price_of(deed, price)
                if price is not None and least[node] + price < least.get(other, least[node] + price + 1):
                    least[other] = least[node] + price
                    row.append(other)
        return least

    def moves_once(self, node):
        if node not in self.known:
            self.known[node] = self.moves(node)
        return self.known[node]

    def price(self, price_of=lambda deed, price: price):
        """The least price of all goal nodes to which one comes, or None."""
        least = self.least(price_of)
        return min([least[node] for node in least if self.is_goal(node)], default=None)


# A rail on which a small mover can become a tall one at 3 alone, where the room is free if t is away.
TURN_SCENE = (
    ((0, 6),), (("m", ((SQUARE,), (((0, 0), (1, 0), (1, 2), (0, 2)),)), (0, 1), (0, 0)),),
    (((5, 1), (6, 1), (6, 2), (5, 2)),), (("t", (SQUARE,), ((3, 1), (1, 1), (0, 5))),), (),
    (("turn", 0, 0, 1, (3, 0), (((0, 0), (1, 0), (1, 2), (0, 2)),), 2), ("turn", 0, 1, 0, (3, 0), (SQUARE,), 1),
     ("grip", 0, 0, 0, (3, 0), (0, 1), 4), ("lay", 2, 1, (1, 0), 0), ("turn", 0, 0, 1, (3, 9), (BOX,), 0),
     ("lay", 2, 2, (0, 4), 0)),
)
TURN_TASK = (((0, 1),), ((0,), (0,)), (("mover", 0, (2, 0)), ("thing", 0, 1)))
