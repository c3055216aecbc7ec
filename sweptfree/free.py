"""What is within the limits, free and clear, and which bodies meet and touch."""

from sweptfree.bars import apart_at, bars_at, bars_of, contacts_between, contacts_of
from sweptfree.forms import is_in_limits
from sweptfree.places import looked_at


def is_within(scene, standing):
    """Return whether a standing is within the limits."""
    return is_in_limits(scene[0], standing)


def is_free(scene, mode, standing):
    """Return whether a standing is free in a mode."""
    if not is_within(scene, standing):
        return False
    return not any(bars_at(bar, standing) for bar in bars_of(scene, mode))


def is_clear(scene, mode, standing):
    """Return whether a standing is clear in a mode."""
    if not is_within(scene, standing):
        return False
    return all(apart_at(contact, standing) for contact in contacts_of(scene, mode))


def meeting(scene, mode, standing):
    """Return the ascending list of the pairs of marks of bodies that are looked at and meet, also beyond the limits."""
    return related_pairs(scene, mode, standing, "meet")


def touching(scene, mode, standing):
    """Return the ascending list of the pairs of marks of bodies that are looked at and touch, likewise."""
    return related_pairs(scene, mode, standing, "touch")


def related_pairs(scene, mode, standing, word):
    """Return the list of the pairs of marks of bodies that are looked at and are so to each other."""
    pairs = looked_at(scene, mode)
    return [(one, other) for one, other in pairs if body_relation(scene, mode, standing, one, other) == word]


def body_relation(scene, mode, standing, one, other):
    """Return "meet", "touch" or "clear" for two bodies by their marks."""
    contacts, bars = contacts_between(scene, mode, one, other)
    if any(bars_at(bar, standing) for bar in bars):
        return "meet"
    return "clear" if all(apart_at(contact, standing) for contact in contacts) else "touch"
