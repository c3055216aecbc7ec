"""Rings: what is wrong with them, where points are, and their cuts into pieces."""

from sweptfree.errors import BadRing
from sweptfree.pieces import are_apart, area_twice, box_of, cross, edges_of, from_least, is_piece, is_point, may_meet
from sweptfree.pieces import side_from, signed_area_twice


def check_ring(value):
    """Raise BadRing(word, number) if value, which may be anything, is no ring."""
    if not isinstance(value, tuple) or len(value) < 3:
        raise BadRing("form", None)
    k = wrong_point(value)
    if k is not None:
        raise BadRing("point", k)
    k = wrong_edge(value)
    if k is not None:
        raise BadRing("edge", k)


def wrong_point(value):
    """Return the number of the first member that is no point, or stands there earlier, or None."""
    seen = set()
    for k, point in enumerate(value):
        if not is_point(point) or point in seen:
            return k
        seen.add(point)
    return None


def wrong_edge(points):
    """Return the number of the first edge that has a point in common with another one that it should not have."""
    for i in range(len(points)):
        for j in range(i + 1, len(points)):
            if do_clash(points, i, j):
                return i
    return None


def do_clash(points, i, j):
    """Return whether the edges i and j, i less than j, have a point in common that they should not have."""
    last = len(points) - 1
    if j == i + 1:
        return folds_back(points[i], points[j], points[0 if j == last else j + 1])
    if i == 0 and j == last:
        return folds_back(points[j], points[0], points[1])
    return have_common_point(points[i], points[i + 1], points[j], points[0 if j == last else j + 1])


def folds_back(a, b, c):
    """Return whether the edges from a to b and from b to c have more than b in common."""
    if cross(a, b, c) != 0:
        return False
    return (a[0] - b[0]) * (c[0] - b[0]) + (a[1] - b[1]) * (c[1] - b[1]) > 0


def have_common_point(a, b, c, d):
    """Return whether the edges from a to b and from c to d have a point in common."""
    for k in (0, 1):
        if max(a[k], b[k]) < min(c[k], d[k]) or max(c[k], d[k]) < min(a[k], b[k]):
            return False
    return cross(a, b, c) * cross(a, b, d) <= 0 and cross(c, d, a) * cross(c, d, b) <= 0


def ring_area_twice(ring):
    """Return twice the area of a ring."""
    return abs(signed_area_twice(ring))


def where_in_ring(ring, point):
    """Return "inside", "edge" or "outside" for a point of fractions."""
    crossed = 0
    for a, b in edges_of(ring):
        side = side_from(a, b, point)
        if side == 0 and is_beside(a, b, point):
            return "edge"
        if is_above(a, point) != is_above(b, point) and side == (1 if b[1] > a[1] else -1):
            crossed += 1
    return "inside" if crossed % 2 == 1 else "outside"


def is_above(a, point):
    """Return whether a point of integers is above the height of a point of fractions."""
    y, below = point[1]
    return a[1] * below > y


def is_beside(a, b, point):
    """Return whether both coordinates of a point of fractions are between those of a and b, or as these."""
    for k in (0, 1):
        n, below = point[k]
        if n < min(a[k], b[k]) * below or n > max(a[k], b[k]) * below:
            return False
    return True


def without_straight(points):
    """Return the list of the points that are not in one line with their neighbours."""
    ahead = points[-1:] + points[:-1]
    behind = points[1:] + points[:1]
    return [b for a, b, c in zip(ahead, points, behind) if cross(a, b, c) != 0]


def triangles(ring):
    """Return a cut of a ring into triangles, made by cutting off ears."""
    points = list(ring)
    if signed_area_twice(points) < 0:
        points = points[::-1]
    points = without_straight(points)
    found = []
    while len(points) > 3:
        k = ear_of(points)
        found.append(from_least([points[k - 1], points[k], points[(k + 1) % len(points)]]))
        points = without_straight(points[:k] + points[k + 1:])
    found.append(from_least(points))
    return tuple(found)


def ear_of(points):
    """Return the number of the first point of a ring to the left that is an ear; there is one."""
    k = 0
    while not is_ear(points, k):
        k += 1
    return k


def is_ear(points, k):
    """Return whether no other point is inside or on the edge of the triangle of point k and its neighbours."""
    a, b, c = points[k - 1], points[k], points[(k + 1) % len(points)]
    if cross(a, b, c) <= 0:
        return False
    return not any(is_in_triangle(a, b, c, p) for p in points if p not in (a, b, c))


def is_in_triangle(a, b, c, p):
    """Return whether p is inside a triangle to the left or on its edge."""
    return cross(a, b, p) >= 0 and cross(b, c, p) >= 0 and cross(c, a, p) >= 0


def cut(ring):
    """Return a lean cut of a ring with at most as many pieces as it has points, less 2."""
    pieces = list(triangles(ring))
    found = joinable(pieces)
    while found is not None:
        m, n, joined = found
        pieces = [piece for k, piece in enumerate(pieces) if k not in (m, n)] + [joined]
        found = joinable(pieces)
    return tuple(pieces)


def is_lean(pieces):
    """Return whether a cut is lean."""
    return joinable(pieces) is None


def joinable(pieces):
    """Return (m, n, joined) for two pieces with an edge in common that are a piece together, or None."""
    owners = {}
    for n, piece in enumerate(pieces):
        for edge in edges_of(piece):
            owners[edge] = n
    for m, piece in enumerate(pieces):
        for a, b in edges_of(piece):
            n = owners.get((b, a))
            if n is not None:
                joined = joined_along(piece, pieces[n], a, b)
                if is_piece(joined):
                    return m, n, joined
    return None


def joined_along(one, other, a, b):
    """Return what two pieces are together, the one with the edge from a to b, the other from b to a."""
    return from_least(without_straight(list(told_from(one, b) + told_from(other, a)[1:-1])))


def told_from(piece, corner):
    """Return the corners of a piece from one of them on."""
    k = piece.index(corner)
    return piece[k:] + piece[:k]


def judge_cut(ring, value):
    """Return None if value, which may be anything, is a cut of a ring, and otherwise its first fault."""
    if not isinstance(value, tuple) or not all(is_piece(piece) for piece in value):
        return ("form",)
    boxes = [box_of(piece) for piece in value]
    edges = [(box_of(edge), edge) for edge in edges_of(ring)]
    for n, piece in enumerate(value):
        if not is_within_ring(ring, edges, piece, boxes[n]):
            return ("piece", n)
    for m, piece in enumerate(value):
        for n in range(m + 1, len(value)):
            if may_meet(boxes[m], boxes[n]) and not are_apart(piece, value[n]):
                return ("apart", m, n)
    if sum(area_twice(piece) for piece in value) != ring_area_twice(ring):
        return ("area",)
    return None


def is_within_ring(ring, edges, piece, box):
    """Return whether no edge of a ring goes into a piece, and its middle is inside the ring.

    The edges are told with their boxes, so is the piece. An edge goes into it unless a line keeps them apart, one with
    the direction of the edge or of one of the piece's: so it is looked at as a piece of two corners.
    """
    for edge_box, edge in edges:
        if may_meet(edge_box, box) and not are_apart(edge, piece):
            return False
    return is_middle_inside(ring, piece)


def is_middle_inside(ring, piece):
    """Return whether the middle of a piece, which is on no edge of a ring, is inside the ring."""
    many = len(piece)
    x, y = sum([p for p, _ in piece]), sum([q for _, q in piece])
    inside = False
    a, b = ring[-1]
    for u, v in ring:
        if (b * many > y) != (v * many > y):
            left = (u - a) * (y - b * many) - (v - b) * (x - a * many)
            if (left > 0) == (v > b):
                inside = not inside
        a, b = u, v
    return inside
