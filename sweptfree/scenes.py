"""Scenes that fit, their modes and standings.

Each function called .._misfit returns the path from its part to what does not fit, or None if all fits.
"""

from sweptfree.errors import BadScene
from sweptfree.pieces import is_piece
from sweptfree.trees import is_mode_tree, scene_tree_fault
from sweptfree.words import is_fraction


def check_scene(value):
    """Raise BadScene(path) if value, which may be anything, is no scene that fits."""
    path = scene_fault(value)
    if path is not None:
        raise BadScene(path)


def scene_fault(value):
    """Return the path of the first wrong part of what should be a scene that fits, or None."""
    path = scene_tree_fault(value)
    return misfit(value) if path is None else path


def misfit(scene):
    """Look at all parts of what has the form of a scene."""
    for k, fault_of in enumerate(MISFITS):
        path = fault_of(scene)
        if path is not None:
            return (k,) + path
    return None


def limits_misfit(scene):
    for k, (low, high) in enumerate(scene[0]):
        if low >= high:
            return (k,)
    return None


def movers_misfit(scene):
    """Look at the movers, of which there must be one."""
    names = [mover[0] for mover in scene[1]]
    for k, mover in enumerate(scene[1]):
        path = (0,) if mover[0] in names[:k] else mover_misfit(scene, mover)
        if path is not None:
            return (k,) + path
    return None if names else ()


def mover_misfit(scene, mover):
    """Look at a mover, its name left out."""
    _, faces, across, up = mover
    for f, face in enumerate(faces):
        path = shape_misfit(face)
        if path is not None:
            return (1, f) + path
    if len(across) != many_sliders(scene) + 1:
        return (2,)
    return (3,) if len(up) != many_sliders(scene) + 1 else None


def shape_misfit(pieces):
    """Look at the pieces of a shape, or of the walls."""
    for j, piece in enumerate(pieces):
        if not is_piece(piece):
            return (j,)
    return None


def walls_misfit(scene):
    return shape_misfit(scene[2])


def things_misfit(scene):
    """Look at the things, whose names must be unlike those of the movers, too."""
    ahead = [mover[0] for mover in scene[1]]
    for k, (name, shape, spots) in enumerate(scene[3]):
        path = (0,) if name in ahead else thing_misfit(shape, spots)
        if path is not None:
            return (k,) + path
        ahead.append(name)
    return None


def thing_misfit(shape, spots):
    """Look at a thing, its name left out."""
    path = shape_misfit(shape)
    if path is not None:
        return (1,) + path
    for j, spot in enumerate(spots):
        if spot in spots[:j]:
            return (2, j)
    return None


def joined_misfit(scene):
    joined = scene[4]
    many = len(scene[1])
    for k, (m, n) in enumerate(joined):
        if m >= many:
            return (k, 0)
        if n is not None and not m < n < many:
            return (k, 1)
        if (m, n) in joined[:k]:
            return (k,)
    return None


def deeds_misfit(scene):
    """Look at the deeds, of each of which only those ahead of it count."""
    for k, deed in enumerate(scene[5]):
        if deed[0] == "grip":
            path = grip_misfit(scene, deed)
        elif deed[0] == "lay":
            path = lay_misfit(scene, k)
        else:
            path = turn_misfit(scene, deed)
        if path is not None:
            return (k,) + path
    return None


def grip_misfit(scene, deed):
    _, m, t, spot, place, offset, _ = deed
    if m >= len(scene[1]):
        return (1,)
    if t >= len(scene[3]):
        return (2,)
    spots = scene[3][t][2]
    if spot >= len(spots):
        return (3,)
    return None if added(place, offset) == spots[spot] else ()


def lay_misfit(scene, k):
    """Look at the lay deed with the number k, whose grip must be an earlier one."""
    _, g, spot, place, _ = scene[5][k]
    if g >= k or scene[5][g][0] != "grip":
        return (1,)
    _, _, t, _, _, offset, _ = scene[5][g]
    spots = scene[3][t][2]
    if spot >= len(spots):
        return (2,)
    return None if added(place, offset) == spots[spot] else ()


def turn_misfit(scene, deed):
    _, m, face, late, _, room, _ = deed
    if m >= len(scene[1]):
        return (1,)
    many = len(scene[1][m][1])
    if face >= many:
        return (2,)
    if late >= many or late == face:
        return (3,)
    path = shape_misfit(room)
    return None if path is None else (5,) + path


def added(one, other):
    """Return two points of integers, added."""
    return (one[0] + other[0], one[1] + other[1])


MISFITS = (limits_misfit, movers_misfit, walls_misfit, things_misfit, joined_misfit, deeds_misfit)


def is_mode(scene, value):
    """Return whether value, which may be anything, is a mode of a scene."""
    if not is_mode_tree(value):
        return False
    lies, faces = value
    if len(lies) != len(scene[3]) or len(faces) != len(scene[1]):
        return False
    for m, face in enumerate(faces):
        if face >= len(scene[1][m][1]):
            return False
    for t, lie in enumerate(lies):
        if not can_lie(scene, t, lie):
            return False
    holders = [holder_of(scene, lie) for lie in lies if isinstance(lie, tuple)]
    return len(set(holders)) == len(holders)


def can_lie(scene, t, lie):
    """Return whether a lie is the number of a spot of a thing, or tells a grip deed for it."""
    if not isinstance(lie, tuple):
        return lie < len(scene[3][t][2])
    deeds = scene[5]
    return lie[1] < len(deeds) and deeds[lie[1]][0] == "grip" and deeds[lie[1]][2] == t


def holder_of(scene, lie):
    """Return the number of the mover that holds what is held."""
    return scene[5][lie[1]][1]


def is_standing(scene, value):
    """Return whether value, which may be anything, is a standing of a scene."""
    if not isinstance(value, tuple) or len(value) != many_sliders(scene):
        return False
    return all(is_fraction(part) for part in value)


def many_sliders(scene):
    """Return how many sliders a scene has."""
    return len(scene[0])


def held_by(scene, mode, mover):
    """Return the number of the thing that a mover holds in a mode, or None."""
    for t, lie in enumerate(mode[0]):
        if isinstance(lie, tuple) and holder_of(scene, lie) == mover:
            return t
    return None
