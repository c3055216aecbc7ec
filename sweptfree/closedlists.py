"""Closed lists: lists of free cells that no way through free standings leaves."""

from sweptfree.frames import is_row_of_signs, refuse_too_great
from sweptfree.rooms import free_room, reached


def closed_list(frame, contacts, start, goals):
    """Return a closed list for a free cell and a list of rows of signs, or None if one of these is in its part."""
    part = reached(free_room(frame, contacts), start)
    if any(goal in part for goal in goals):
        return None
    return sorted(part)


def judge_closed(frame, contacts, start, goals, value):
    """Return None if value, which may be anything, is a closed list, and otherwise its first fault."""
    refuse_too_great(frame)
    if not isinstance(value, (list, tuple)) or not all(is_row_of_signs(frame, row) for row in value):
        return ("form",)
    beside = free_room(frame, contacts)
    told = {}
    for n, row in enumerate(value):
        if row not in beside or row in told:
            return ("cell", n)
        told[row] = True
    if start not in told:
        return ("start",)
    for n, goal in enumerate(goals):
        if goal in told:
            return ("goal", n)
    return open_fault(beside, told)


def open_fault(beside, told):
    """Return the fault of the first cell that is told beside which there is one that is not, or None."""
    for n, row in enumerate(told):
        left = [cell for cell in beside[row] if cell not in told]
        if left:
            return ("open", n, min(left))
    return None
