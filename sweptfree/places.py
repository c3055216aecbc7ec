"""Places of movers, marks of bodies, what is laid out where, and which bodies are looked at."""

from sweptfree.forms import value_of
from sweptfree.fractions import plus, whole
from sweptfree.scenes import held_by, many_sliders


def place_of(scene, mover, standing):
    """Return the place of a mover at a standing, a point of fractions."""
    return place_at(mover_hanging(scene, mover), standing)


def marks_of(scene, mode):
    """Return the ascending list of the marks of all bodies of a mode."""
    movers = [(0, m) for m in range(len(scene[1]))]
    things = [(1, t) for t in range(len(mode[0]))]
    return movers + things + [(2, 0)]


def laid_out(scene, mode, standing):
    """Return the list of the pairs (mark, shape) of all bodies, the shapes laid at a standing."""
    return [(mark, laid_shape(scene, mode, mark, standing)) for mark in marks_of(scene, mode)]


def laid_shape(scene, mode, mark, standing):
    """Return the shape of a body with points of fractions as corners, laid where it is at a standing."""
    place = place_at(hanging(scene, mode, mark), standing)
    return tuple([laid_piece(piece, place) for piece in shape_of(scene, mode, mark)])


def laid_piece(piece, place):
    """Return the corners of a piece, moved by a point of fractions."""
    return tuple([(plus(whole(x), place[0]), plus(whole(y), place[1])) for x, y in piece])


def shape_of(scene, mode, mark):
    """Return the shape of a body with a mark, perhaps () for the walls, as the scene tells it."""
    sort, number = mark
    if sort == 0:
        return scene[1][number][1][mode[1][number]]
    return scene[3][number][1] if sort == 1 else scene[2]


def hanging(scene, mode, mark):
    """Return how the place of a body comes of a standing: two tuples of integers, c0 and one for each slider."""
    sort, number = mark
    if sort == 0:
        return mover_hanging(scene, number)
    if sort == 2:
        return fixed(scene, (0, 0))
    lie = mode[0][number]
    if not isinstance(lie, tuple):
        return fixed(scene, scene[3][number][2][lie])
    _, m, _, _, _, offset, _ = scene[5][lie[1]]
    across, up = mover_hanging(scene, m)
    return (moved_on(across, offset[0]), moved_on(up, offset[1]))


def mover_hanging(scene, mover):
    """Return how the place of a mover comes of a standing."""
    _, _, across, up = scene[1][mover]
    return (across, up)


def fixed(scene, point):
    """Return how a place comes of a standing that is always at a point of integers."""
    behind = (0,) * many_sliders(scene)
    return ((point[0],) + behind, (point[1],) + behind)


def moved_on(numbers, by):
    """Return a tuple of integers with more at c0."""
    return (numbers[0] + by,) + numbers[1:]


def place_at(hung, standing):
    """Return the place at a standing that comes of two such tuples."""
    across, up = hung
    return (value_of(across, standing), value_of(up, standing))


def looked_at(scene, mode):
    """Return the ascending list of all pairs of marks of bodies that are looked at, the lesser one first."""
    marks = marks_of(scene, mode)
    pairs = [(one, other) for k, one in enumerate(marks) for other in marks[k + 1:]]
    return [(one, other) for one, other in pairs if are_looked_at(scene, mode, one, other)]


def are_looked_at(scene, mode, one, other):
    """Return whether two bodies are looked at, the mark of the one being less."""
    if one[0] == 0:
        if other[0] == 1:
            return held_by(scene, mode, one[1]) != other[1]
        return not are_joined(scene, one[1], other)
    return is_held(mode, one) or is_held(mode, other)


def are_joined(scene, mover, other):
    """Return whether a mover is joined with another one, or the walls, by their mark."""
    if other[0] == 2:
        return (mover, None) in scene[4]
    return (min(mover, other[1]), max(mover, other[1])) in scene[4]


def is_held(mode, mark):
    """Return whether a body is a thing that is held."""
    return mark[0] == 1 and isinstance(mode[0][mark[1]], tuple)
