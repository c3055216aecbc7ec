"""Tasks: what is one, modes behind deeds, what keeps a deed from being done, goals, and all modes of a task."""

from sweptfree.bars import bars_at, room_bars
from sweptfree.errors import BadTask, TooGreat
from sweptfree.fractions import whole
from sweptfree.free import is_free
from sweptfree.places import place_of
from sweptfree.scenes import held_by, is_mode, is_standing
from sweptfree.words import is_integer, is_point

MOST_MODES = 24


def check_task(scene, value):
    """Raise BadTask(path) if value, which may be anything, is no task of a scene."""
    path = task_fault(scene, value)
    if path is not None:
        raise BadTask(path)


def task_fault(scene, value):
    """Return the path of the first wrong part of what should be a task of a scene, or None."""
    if not isinstance(value, tuple) or len(value) != 3:
        return ()
    start, mode, goals = value
    if not is_standing(scene, start):
        return (0,)
    if not is_mode(scene, mode):
        return (1,)
    if not isinstance(goals, tuple):
        return (2,)
    for k, goal in enumerate(goals):
        path = goal_fault(scene, goal)
        if path is not None:
            return (2, k) + path
    return None if is_free(scene, mode, start) else (0,)


def goal_fault(scene, goal):
    """Return the path of the first wrong part of what should be a goal, or None."""
    if not isinstance(goal, tuple) or len(goal) != 3:
        return ()
    word, number, aim = goal
    if word == "thing":
        if not is_number_of(scene[3], number):
            return (1,)
        return None if is_number_of(scene[3][number][2], aim) else (2,)
    if word == "mover":
        if not is_number_of(scene[1], number):
            return (1,)
        return None if is_point(aim) else (2,)
    return ()


def is_number_of(row, value):
    """Return whether value, which may be anything, is the number of a member of a tuple."""
    return is_integer(value) and 0 <= value < len(row)


def mode_behind(scene, mode, number):
    """Return the mode behind the deed with a number, or None if it does not fit the mode."""
    deed = scene[5][number]
    if deed[0] == "grip":
        return behind_grip(scene, mode, number)
    return behind_lay(scene, mode, deed) if deed[0] == "lay" else behind_turn(scene, mode, deed)


def behind_grip(scene, mode, number):
    _, m, t, spot, _, _, _ = scene[5][number]
    lies, faces = mode
    if lies[t] != spot or held_by(scene, mode, m) is not None:
        return None
    return (with_member(lies, t, ("held", number)), faces)


def behind_lay(scene, mode, deed):
    _, g, spot, _, _ = deed
    lies, faces = mode
    t = scene[5][g][2]
    return (with_member(lies, t, spot), faces) if lies[t] == ("held", g) else None


def behind_turn(scene, mode, deed):
    _, m, face, late, _, _, _ = deed
    lies, faces = mode
    if faces[m] != face or held_by(scene, mode, m) is not None:
        return None
    return (lies, with_member(faces, m, late))


def with_member(row, k, member):
    """Return a tuple with another member number k."""
    return row[:k] + (member,) + row[k + 1:]


def deed_word(scene, mode, standing, number):
    """Return the word with which a deed cannot be done at a position, or None if it can."""
    behind = mode_behind(scene, mode, number)
    if behind is None:
        return "mode"
    m, place = mover_and_place(scene, number)
    if not stands_at(scene, m, place, standing):
        return "place"
    if not is_free(scene, mode, standing):
        return "free"
    if not is_free(scene, behind, standing):
        return "behind"
    return "room" if is_room_barred(scene, mode, standing, number) else None


def mover_and_place(scene, number):
    """Return which mover does a deed, and at which point it stands then."""
    deed = scene[5][number]
    if deed[0] == "lay":
        return (scene[5][deed[1]][1], deed[3])
    return (deed[1], deed[4])


def stands_at(scene, mover, point, standing):
    """Return whether a mover stands at a point of integers at a standing."""
    return place_of(scene, mover, standing) == (whole(point[0]), whole(point[1]))


def is_room_barred(scene, mode, standing, number):
    """Return whether a deed that fits a mode is a turn, and something is in its room."""
    if scene[5][number][0] != "turn":
        return False
    return any(bars_at(bar, standing) for bar in room_bars(scene, mode, number))


def unmet(scene, goals, mode, standing):
    """Return the ascending list of the numbers of those goals that are not met at a position."""
    return [k for k, goal in enumerate(goals) if not is_met(scene, goal, mode, standing)]


def is_met(scene, goal, mode, standing):
    """Return whether a goal is met at a position."""
    word, number, aim = goal
    if word == "thing":
        return mode[0][number] == aim
    return stands_at(scene, number, aim, standing)


def mode_numbers(scene, mode):
    """Return the numbers of a mode, by which modes ascend."""
    lies, faces = mode
    told = [len(thing[2]) + lie[1] if isinstance(lie, tuple) else lie for thing, lie in zip(scene[3], lies)]
    return tuple(told) + faces


def modes_of(scene, mode):
    """Return the ascending list of the modes of a task with this mode, or raise TooGreat()."""
    return [one for one, _ in modes_and_deeds(scene, mode)]


def modes_and_deeds(scene, mode):
    """Return the list of the modes of a task, each with the list of the pairs (deed, mode behind) of what fits it."""
    found = {}
    left = [mode]
    while left:
        one = left.pop()
        numbers = mode_numbers(scene, one)
        if numbers not in found:
            pairs = fitting(scene, one)
            found[numbers] = (one, pairs)
            left.extend([behind for _, behind in pairs])
        if len(found) > MOST_MODES:
            raise TooGreat()
    return [found[numbers] for numbers in sorted(found)]


def fitting(scene, mode):
    """Return the list of the pairs (number, mode behind) of all deeds that fit a mode."""
    pairs = [(number, mode_behind(scene, mode, number)) for number in range(len(scene[5]))]
    return [(number, behind) for number, behind in pairs if behind is not None]
