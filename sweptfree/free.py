"""What is within the limits, free and clear, and which bodies meet and touch."""

from sweptfree.forms import is_in_limits
from sweptfree.laying import any_common, any_meet, pairs_laid


def is_within(scene, standing):
    """Return whether a standing is within the limits."""
    return is_in_limits(scene[0], standing)


def is_free(scene, mode, standing):
    """Return whether a standing is free in a mode."""
    if not is_within(scene, standing):
        return False
    return not any(any_meet(some, others) for _, some, others in pairs_laid(scene, mode, standing))


def is_clear(scene, mode, standing):
    """Return whether a standing is clear in a mode."""
    if not is_within(scene, standing):
        return False
    return not any(any_common(some, others) for _, some, others in pairs_laid(scene, mode, standing))


def meeting(scene, mode, standing):
    """Return the ascending list of the pairs of marks of bodies that are looked at and meet, also beyond the limits."""
    return [pair for pair, some, others in pairs_laid(scene, mode, standing) if any_meet(some, others)]


def touching(scene, mode, standing):
    """Return the ascending list of the pairs of marks of bodies that are looked at and touch, likewise."""
    pairs = pairs_laid(scene, mode, standing)
    return [pair for pair, some, others in pairs if any_common(some, others) and not any_meet(some, others)]
