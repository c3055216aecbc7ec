"""How a piece at a place is to another piece, and the papers that show it."""

from sweptfree.fractions import is_fraction_pair, less, middle, minus, over, plus, sign_of, times, whole
from sweptfree.pieces import edges_of, side_from, turned_about, where
from sweptfree.sums import sum_of
from sweptfree.words import is_integer

RELATIONS = {"inside": "meet", "edge": "touch", "outside": "clear"}


def relation(one, other, place):
    """Return "meet", "touch" or "clear" for the piece one at a place and the piece other."""
    return RELATIONS[where(sum_of(other, turned_about(one)), place)]


def paper_of(one, other, place):
    """Return a paper of the piece one at a place and the piece other."""
    word = relation(one, other, place)
    if word == "clear":
        return ("clear", parting_line(one, other, place))
    room = common_room(one, other, place)
    if word == "touch":
        return ("touch", parting_line(one, other, place), room[0])
    return ("meet", middle_of_three(room[0], room[1], room[2]))


def parting_line(one, other, place):
    """Return a line that parts two pieces that do not meet, strictly if they are clear of each other."""
    corners = sum_of(other, turned_about(one))
    least = min(side_from(u, v, place) for u, v in edges_of(corners))
    u, v = [edge for edge in edges_of(corners) if side_from(edge[0], edge[1], place) == least][0]
    a, b = u[1] - v[1], v[0] - u[0]
    half = middle(highest_at(one, place, a, b), whole(min(a * x + b * y for x, y in other)))
    return (a * half[1], b * half[1], half[0])


def highest_at(piece, place, a, b):
    """Return the greatest a * x + b * y, a fraction, of the corners of a piece at a place."""
    shift = plus(times(whole(a), place[0]), times(whole(b), place[1]))
    return plus(whole(max(a * x + b * y for x, y in piece)), shift)


def common_room(one, other, place):
    """Return the corners of the common room of two pieces, one at a place, as points of fractions.

    If they meet, no three of them are in one line; if they touch, they are one or two points, perhaps told again.
    """
    points = [(plus(whole(x), place[0]), plus(whole(y), place[1])) for x, y in one]
    for a, b in edges_of(other):
        points = not_right_of(points, a, b)
    return points


def not_right_of(points, a, b):
    """Return the corners of what is not to the right of a line, of the room with these corners."""
    values = [value_from(a, b, point) for point in points]
    kept = []
    for k, point in enumerate(points):
        if sign_of(values[k - 1]) * sign_of(values[k]) < 0:
            share = over(values[k - 1], minus(values[k - 1], values[k]))
            kept.append(point_between(points[k - 1], point, share))
        if sign_of(values[k]) >= 0:
            kept.append(point)
    return kept


def value_from(a, b, point):
    """Return a fraction with the sign of the side from the line from a to b, growing evenly with the distance."""
    left = times(whole(b[0] - a[0]), minus(point[1], whole(a[1])))
    right = times(whole(b[1] - a[1]), minus(point[0], whole(a[0])))
    return minus(left, right)


def point_between(p, q, share):
    """Return the point that lies so far on the way from p to q, share being from 0 to 1."""
    x = plus(p[0], times(share, minus(q[0], p[0])))
    y = plus(p[1], times(share, minus(q[1], p[1])))
    return (x, y)


def middle_of_three(p, q, r):
    """Return the middle of a triangle of points of fractions."""
    x = over(plus(p[0], plus(q[0], r[0])), whole(3))
    y = over(plus(p[1], plus(q[1], r[1])), whole(3))
    return (x, y)


def judge_paper(one, other, place, value):
    """Return None if value, which may be anything, is a paper of these, and otherwise its first fault."""
    if not has_paper_form(value):
        return ("form",)
    word = value[0]
    if word != "meet" and not does_part(one, other, place, value[1], word == "clear"):
        return ("line",)
    if word != "clear" and not is_common_point(one, other, place, value[-1], word == "meet"):
        return ("point",)
    return None


def has_paper_form(value):
    """Return whether value, which may be anything, is one of the three papers in form."""
    if not isinstance(value, tuple) or len(value) not in (2, 3):
        return False
    if len(value) == 3:
        return value[0] == "touch" and is_line(value[1]) and is_fraction_pair(value[2])
    if value[0] == "meet":
        return is_fraction_pair(value[1])
    return value[0] == "clear" and is_line(value[1])


def is_line(value):
    """Return whether value, which may be anything, is a line."""
    if not isinstance(value, tuple) or len(value) != 3:
        return False
    return all(is_integer(n) for n in value) and (value[0] != 0 or value[1] != 0)


def does_part(one, other, place, line, strictly):
    """Return whether a line parts the piece one at a place from the piece other."""
    a, b, c = line
    high = highest_at(one, place, a, b)
    low = whole(min(a * x + b * y for x, y in other))
    if strictly:
        return less(high, whole(c)) and less(whole(c), low)
    return not less(whole(c), high) and not less(low, whole(c))


def is_common_point(one, other, place, point, inside):
    """Return whether a point is inside both pieces, or, if it need not be inside, in both rooms."""
    back = (minus(point[0], place[0]), minus(point[1], place[1]))
    wheres = (where(one, back), where(other, point))
    if inside:
        return wheres == ("inside", "inside")
    return "outside" not in wheres
