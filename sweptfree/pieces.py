"""Pieces and shapes: sides of points, what is wrong with them, where points are, hulls."""

from sweptfree.errors import BadShape, Flat
from sweptfree.fractions import integer_sign, minus, sign_of, times
from sweptfree.words import is_integer_pair


def side_of(a, b, p):
    """Return the side of a point p from the line from a to b, three points of fractions."""
    left = times(minus(b[0], a[0]), minus(p[1], a[1]))
    right = times(minus(b[1], a[1]), minus(p[0], a[0]))
    return sign_of(minus(left, right))


def is_point(value):
    """Return whether value, which may be anything, is a pair of integers."""
    return is_integer_pair(value)


def cross(a, b, p):
    """Return an integer with the sign of the side of p from the line from a to b, all points of integers."""
    return (b[0] - a[0]) * (p[1] - a[1]) - (b[1] - a[1]) * (p[0] - a[0])


def side_from(a, b, point):
    """Return the side of a point of fractions from the line between two points of integers."""
    (x, x_below), (y, y_below) = point
    left = (b[0] - a[0]) * (y - a[1] * y_below) * x_below
    right = (b[1] - a[1]) * (x - a[0] * x_below) * y_below
    return integer_sign(left - right)


def edges_of(corners):
    """Return the list of the edges, each as a pair of its ends, of a tuple or list of corners."""
    return list(zip(corners, corners[1:] + corners[:1]))


def check_piece(value):
    """Raise BadShape(path, word) if value, which may be anything, is no piece."""
    fault = piece_fault(value)
    if fault is not None:
        raise BadShape(fault[0], fault[1])


def check_shape(value):
    """Raise BadShape(path, word) if value, which may be anything, is no shape."""
    if not isinstance(value, tuple) or len(value) < 1:
        raise BadShape((), "form")
    for n, piece in enumerate(value):
        fault = piece_fault(piece)
        if fault is not None:
            raise BadShape((n,) + fault[0], fault[1])


def piece_fault(value):
    """Return the path and the word of what is wrong with what should be a piece, or None."""
    if not isinstance(value, tuple) or len(value) < 3:
        return ((), "form")
    for k, corner in enumerate(value):
        if not is_point(corner):
            return ((k,), "form")
    for k in range(len(value)):
        if not all_left_of_edge(value, k):
            return ((k,), "turn")
    return None if value[0] == min(value) else ((), "first")


def all_left_of_edge(corners, k):
    """Return whether all corners but the two ends of edge k, told by their numbers, have the side 1 from it."""
    end = (k + 1) % len(corners)
    (x, y), (u, v) = corners[k], corners[end]
    run, rise = u - x, v - y
    for n, (p, q) in enumerate(corners):
        if run * (q - y) <= rise * (p - x) and n != k and n != end:
            return False
    return True


def is_piece(value):
    """Return whether value, which may be anything, is a piece."""
    return piece_fault(value) is None


def where(piece, point):
    """Return "inside", "edge" or "outside" for a point of fractions."""
    least = min(side_from(a, b, point) for a, b in edges_of(piece))
    if least < 0:
        return "outside"
    return "inside" if least > 0 else "edge"


def area_twice(piece):
    """Return twice the area."""
    return signed_area_twice(piece)


def signed_area_twice(corners):
    """Return twice the area within the corners, below 0 if they go round to the right."""
    return sum(a[0] * b[1] - b[0] * a[1] for a, b in edges_of(corners))


def from_least(corners):
    """Return the tuple of the corners of a list or tuple, told from the least one on."""
    k = corners.index(min(corners))
    return tuple(corners[k:] + corners[:k])


def hull(points):
    """Return the hull of a list of points of integers; raise Flat() if they are all in one line."""
    rows = sorted(set(points))
    corners = lower_half(rows) + lower_half(rows[::-1])
    if len(corners) < 3:
        raise Flat()
    return tuple(corners)


def lower_half(rows):
    """Return the hull's corners to the right of the way from the first point to the last, this one left out."""
    corners = []
    for p in rows:
        while len(corners) >= 2 and cross(corners[-2], corners[-1], p) <= 0:
            corners.pop()
        corners.append(p)
    return corners[:-1]


def turned_about(piece):
    """Return the piece turned about."""
    return from_least([(-x, -y) for x, y in piece])


def moved(piece, by):
    """Return the piece moved by a point of integers."""
    return tuple((x + by[0], y + by[1]) for x, y in piece)


def are_apart(one, other):
    """Return whether two pieces are apart."""
    return is_parted_from(one, other, 1) or is_parted_from(other, one, 1)


def is_parted_from(corners, others, least):
    """Return whether from the line of some edge of a piece's corners none of the others is so far to the left.

    least is 1 if they may be on the line, and 0 if they may not; all corners are pairs of integers.
    """
    x, y = corners[-1]
    for u, v in corners:
        run, rise = u - x, v - y
        for p, q in others:
            if run * (q - y) - rise * (p - x) >= least:
                break
        else:
            return True
        x, y = u, v
    return False


def box_of(corners):
    """Return the tuple (least x, greatest x, least y, greatest y) of corners."""
    across = [x for x, _ in corners]
    up = [y for _, y in corners]
    return (min(across), max(across), min(up), max(up))


def may_meet(one, other):
    """Return whether what lies in the one box may have a point inside what lies in the other one, by box_of."""
    left, right, low, high = one
    other_left, other_right, other_low, other_high = other
    return left < other_right and other_left < right and low < other_high and other_low < high
