"""Sums of pieces, and what a piece sweeps."""

from sweptfree.pieces import edges_of, hull, moved


def sum_of(one, other):
    """Return the sum of two pieces."""
    x, y = one[0][0] + other[0][0], one[0][1] + other[0][1]
    corners = []
    for step in merged(steps_of(one), steps_of(other)):
        corners.append((x, y))
        x, y = x + step[0], y + step[1]
    return tuple(corners)


def steps_of(piece):
    """Return the list of the edges of a piece as steps (x, y)."""
    return [(b[0] - a[0], b[1] - a[1]) for a, b in edges_of(piece)]


def merged(some, others):
    """Return the steps of two pieces in the sequence of their directions, equal directions put together.

    The steps of each go once round, from downward to downward, so the next ones of both are always less
    than half a turn from each other: their turn tells which comes first.
    """
    steps = []
    i, j = 0, 0
    while i < len(some) and j < len(others):
        (x, y), (u, v) = some[i], others[j]
        turn = x * v - y * u
        if turn > 0:
            steps.append((x, y))
            i += 1
        elif turn < 0:
            steps.append((u, v))
            j += 1
        else:
            steps.append((x + u, y + v))
            i, j = i + 1, j + 1
    return steps + some[i:] + others[j:]


def swept(piece, by):
    """Return the piece swept by a point of integers."""
    return hull(list(piece + moved(piece, by)))
