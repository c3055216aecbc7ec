"""Ways: rows of legs, what makes one free and clear, and lean ways."""

from sweptfree.forms import in_parts, is_in_limits
from sweptfree.legs import bars_fault, is_clear_leg
from sweptfree.words import is_fraction


def judge_way(limits, contacts, value):
    """Return None if value, which may be anything, is a free way, and otherwise its first fault."""
    if not isinstance(value, tuple) or not value or not all(is_standing_of(limits, part) for part in value):
        return ("form",)
    for n, standing in enumerate(value):
        if not is_in_limits(limits, standing):
            return ("limits", n)
    for n, (start, end) in enumerate(legs_of([in_parts(standing) for standing in value])):
        fault = bars_fault(contacts, start, end)
        if fault is not None:
            return ("bars", n) + fault[1:]
    return None


def is_standing_of(limits, value):
    """Return whether value, which may be anything, is a tuple of a fraction for each slider."""
    return isinstance(value, tuple) and len(value) == len(limits) and all(is_fraction(part) for part in value)


def legs_of(standings):
    """Return the list of the legs of at least one standing; one alone has a leg to itself."""
    if len(standings) == 1:
        return [(standings[0], standings[0])]
    return list(zip(standings, standings[1:]))


def is_clear_way(limits, contacts, way):
    """Return whether a way is clear."""
    return all(is_clear_leg(limits, contacts, q, r) for q, r in legs_of(way))


def is_lean_way(limits, contacts, way):
    """Return whether no standing of a free way but the ends can by itself be left out."""
    points = [in_parts(standing) for standing in way]
    return not any(bars_fault(contacts, start, end) is None for start, end in zip(points, points[2:]))


def made_lean(limits, contacts, way):
    """Return a lean way that comes of a free one by leaving standings out.

    When one goes, only those beside it can have become such that they can go, so one steps back by one.
    """
    left = [(standing, in_parts(standing)) for standing in way]
    at = 1
    while at < len(left) - 1:
        if bars_fault(contacts, left[at - 1][1], left[at + 1][1]) is None:
            left.pop(at)
            at = max(1, at - 1)
        else:
            at += 1
    return tuple([standing for standing, _ in left])
