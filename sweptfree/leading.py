"""How a piece that is led is to another piece, and at which moment they meet."""

from sweptfree.fractions import is_fraction, is_fraction_pair, less, middle, over, plus, times, whole
from sweptfree.meeting import is_common_point, paper_of, relation, value_from
from sweptfree.pieces import edges_of, turned_about
from sweptfree.sums import sum_of, swept


def led_relation(one, other, place, by):
    """Return "meet", "touch" or "clear" for the piece one, swept, at a place and the piece other."""
    return relation(swept(one, by), other, place)


def moment_of(one, other, place, by):
    """Return a moment paper of the piece one, led from a place, and the piece other, or None."""
    t = meeting_moment(sum_of(other, turned_about(one)), place, by)
    if t is None:
        return None
    return (t, paper_of(one, other, led_place(place, by, t))[1])


def led_place(place, by, t):
    """Return where a piece is at a moment."""
    x = plus(place[0], times(whole(by[0]), t))
    y = plus(place[1], times(whole(by[1]), t))
    return (x, y)


def meeting_moment(corners, place, by):
    """Return a moment at which what is led is inside a piece with these corners, or None.

    The moments of this are all between two bounds: so if there are any, there are such between 0 and 1.
    """
    low, high = whole(0), whole(1)
    for u, v in edges_of(corners):
        value = value_from(u, v, place)
        growth = (v[0] - u[0]) * by[1] - (v[1] - u[1]) * by[0]
        if growth == 0:
            if not less(whole(0), value):
                return None
        else:
            bound = over(value, whole(-growth))
            if growth > 0 and less(low, bound):
                low = bound
            elif growth < 0 and less(bound, high):
                high = bound
    return middle(low, high) if less(low, high) else None


def judge_moment(one, other, place, by, value):
    """Return whether value, which may be anything, is a moment paper."""
    if not isinstance(value, tuple) or len(value) != 2:
        return False
    t, point = value
    if not is_fraction(t) or not is_fraction_pair(point) or not 0 <= t[0] <= t[1]:
        return False
    return is_common_point(one, other, led_place(place, by, t), point, True)
