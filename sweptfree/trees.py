"""Scenes and tasks as trees of tuples, and the path of the first wrong part of what should be one.

Each function called .._fault returns the path from its value to the first wrong part, or None if there is none.
"""

from sweptfree.errors import BadTree
from sweptfree.words import is_fraction, is_integer, is_name, is_point


def check_scene_tree(value):
    """Raise BadTree(path) if value, which may be anything, is no scene."""
    path = scene_tree_fault(value)
    if path is not None:
        raise BadTree(path)


def check_task_tree(value):
    """Raise BadTree(path) if value, which may be anything, is no task."""
    path = tuple_fault(value, TASK)
    if path is not None:
        raise BadTree(path)


def scene_tree_fault(value):
    """Look at what should be a scene."""
    return tuple_fault(value, SCENE)


def part_at(tree, path):
    """Return the part of a scene or a task to which a path leads."""
    part = tree
    for number in path:
        part = part[number]
    return part


def tuple_fault(value, faults):
    """Look at a tuple that should have one member for each of these functions."""
    if not isinstance(value, tuple) or len(value) != len(faults):
        return ()
    for k, fault_of in enumerate(faults):
        path = fault_of(value[k])
        if path is not None:
            return (k,) + path
    return None


def row_fault(value, least, fault_of):
    """Look at a tuple of any number of parts of one kind, but of at least so many."""
    if not isinstance(value, tuple) or len(value) < least:
        return ()
    for k, part in enumerate(value):
        path = fault_of(part)
        if path is not None:
            return (k,) + path
    return None


def whole_fault(holds):
    """Return the path for what is looked at as a whole."""
    return None if holds else ()


def is_number(value):
    """Return whether value, which may be anything, is an integer of at least 0."""
    return is_integer(value) and value >= 0


def is_row(value, least, holds):
    """Return whether value is a tuple of at least so many members for each of which the function holds."""
    return isinstance(value, tuple) and len(value) >= least and all(holds(part) for part in value)


def is_piece_tree(value):
    """Return whether value is a tuple of at least three points, whatever points."""
    return is_row(value, 3, is_point)


def is_lie(value):
    """Return whether value is a spot's number or a pair of the word held and a deed's number."""
    if is_number(value):
        return True
    return isinstance(value, tuple) and len(value) == 2 and value[0] == "held" and is_number(value[1])


def is_mode_tree(value):
    """Return whether value is a pair of lies and faces."""
    if not isinstance(value, tuple) or len(value) != 2:
        return False
    return is_row(value[0], 0, is_lie) and is_row(value[1], 0, is_number)


def word_fault(_):
    """Find nothing: the word at the head of a part settled already which part it is."""
    return None


def name_fault(value):
    return whole_fault(is_name(value))


def integer_fault(value):
    return whole_fault(is_integer(value))


def number_fault(value):
    return whole_fault(is_number(value))


def number_or_none_fault(value):
    return whole_fault(value is None or is_number(value))


def point_fault(value):
    return whole_fault(is_point(value))


def piece_tree_fault(value):
    return whole_fault(is_piece_tree(value))


def start_fault(value):
    return whole_fault(is_row(value, 1, is_fraction))


def mode_fault(value):
    return whole_fault(is_mode_tree(value))


PAIR_OF_LIMITS = (integer_fault, integer_fault)


def pair_of_limits_fault(value):
    return tuple_fault(value, PAIR_OF_LIMITS)


def limits_fault(value):
    """Look at one to three pairs."""
    if isinstance(value, tuple) and len(value) > 3:
        return ()
    return row_fault(value, 1, pair_of_limits_fault)


def shape_tree_fault(value):
    return row_fault(value, 1, piece_tree_fault)


def faces_fault(value):
    return row_fault(value, 1, shape_tree_fault)


def integers_fault(value):
    return row_fault(value, 1, integer_fault)


MOVER = (name_fault, faces_fault, integers_fault, integers_fault)


def mover_fault(value):
    return tuple_fault(value, MOVER)


def movers_fault(value):
    return row_fault(value, 0, mover_fault)


def walls_fault(value):
    return row_fault(value, 0, piece_tree_fault)


def spots_fault(value):
    return row_fault(value, 1, point_fault)


THING = (name_fault, shape_tree_fault, spots_fault)


def thing_fault(value):
    return tuple_fault(value, THING)


def things_fault(value):
    return row_fault(value, 0, thing_fault)


JOINED_PAIR = (number_fault, number_or_none_fault)


def joined_pair_fault(value):
    return tuple_fault(value, JOINED_PAIR)


def joined_fault(value):
    return row_fault(value, 0, joined_pair_fault)


def first_word(value):
    """Return what a tuple begins with, or None."""
    return value[0] if isinstance(value, tuple) and len(value) > 0 else None


GRIP = (word_fault, number_fault, number_fault, number_fault, point_fault, point_fault, number_fault)
LAY = (word_fault, number_fault, number_fault, point_fault, number_fault)
TURN = (word_fault, number_fault, number_fault, number_fault, point_fault, shape_tree_fault, number_fault)


def deed_fault(value):
    """Look at a deed, its word first, which settles what it has behind it."""
    word = first_word(value)
    if word == "grip":
        return tuple_fault(value, GRIP)
    if word == "lay":
        return tuple_fault(value, LAY)
    if word == "turn":
        return tuple_fault(value, TURN)
    return ()


def deeds_fault(value):
    return row_fault(value, 0, deed_fault)


THING_GOAL = (word_fault, number_fault, number_fault)
MOVER_GOAL = (word_fault, number_fault, point_fault)


def goal_fault(value):
    """Look at a goal, its word first, which settles what it has behind it."""
    word = first_word(value)
    if word == "thing":
        return tuple_fault(value, THING_GOAL)
    if word == "mover":
        return tuple_fault(value, MOVER_GOAL)
    return ()


def goals_fault(value):
    return row_fault(value, 0, goal_fault)


SCENE = (limits_fault, movers_fault, walls_fault, things_fault, joined_fault, deeds_fault)
TASK = (start_fault, mode_fault, goals_fault)
