"""Bodies laid at one standing, and whether they meet and touch there.

All is told in parts (sweptfree.forms.in_parts), so in integers. A laid piece is a pair (box, corners), box being what
sweptfree.pieces.box_of tells of its corners.
"""

from sweptfree.forms import in_parts, value_in_parts
from sweptfree.pieces import box_of, may_meet, is_parted_from
from sweptfree.places import hanging, looked_at, marks_of, shape_of


def laid_bodies(scene, mode, standing):
    """Return a dict of the lists of the laid pieces of all bodies, by their marks."""
    point = in_parts(standing)
    laid = {}
    for mark in marks_of(scene, mode):
        laid[mark] = laid_pieces(shape_of(scene, mode, mark), hanging(scene, mode, mark), point)
    return laid


def laid_pieces(shape, hung, point):
    """Return the list of the laid pieces of a shape whose place, hung as told, comes of a standing in parts."""
    across, up = hung
    x, y, many = value_in_parts(across, point), value_in_parts(up, point), point[0]
    pieces = []
    for piece in shape:
        corners = [(a * many + x, b * many + y) for a, b in piece]
        pieces.append((box_of(corners), corners))
    return pieces


def pairs_laid(scene, mode, standing):
    """Return the list of the pairs of marks of bodies that are looked at, each with their lists of laid pieces."""
    laid = laid_bodies(scene, mode, standing)
    return [((one, other), laid[one], laid[other]) for one, other in looked_at(scene, mode)]


def any_meet(some, others):
    """Return whether some piece of the one list meets some piece of the other one."""
    for one in some:
        for other in others:
            if do_meet(one, other):
                return True
    return False


def any_common(some, others):
    """Return whether some piece of the one list has a point in common with some piece of the other one."""
    for one in some:
        for other in others:
            if not are_clear(one, other):
                return True
    return False


def do_meet(one, other):
    """Return whether the insides of two laid pieces have a common point."""
    (box, corners), (other_box, others) = one, other
    if not may_meet(box, other_box):
        return False
    return not is_parted_from(corners, others, 1) and not is_parted_from(others, corners, 1)


def are_clear(one, other):
    """Return whether two laid pieces, their rims counted in, have no common point."""
    (left, right, low, high), corners = one
    (other_left, other_right, other_low, other_high), others = other
    if left > other_right or other_left > right or low > other_high or other_low > high:
        return True
    return is_parted_from(corners, others, 0) or is_parted_from(others, corners, 0)
