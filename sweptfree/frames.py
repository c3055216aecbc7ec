"""Frames, and the rows of signs of standings."""

from sweptfree.errors import BadFrame, TooGreat
from sweptfree.forms import is_form, is_in_limits, limit_pairs, sign_at
from sweptfree.words import is_integer, is_integer_pair

MOST_FORMS = (60, 40, 24)
MOST_SLANTED = 10


def check_frame(value):
    """Raise BadFrame(path) if value, which may be anything, is no frame."""
    path = frame_fault(value)
    if path is not None:
        raise BadFrame(path)


def frame_fault(value):
    """Return the path of the first wrong part of what should be a frame, or None."""
    if not isinstance(value, tuple) or len(value) != 2:
        return ()
    limits, forms = value
    if not isinstance(limits, tuple) or not 1 <= len(limits) <= 3:
        return (0,)
    for k, pair in enumerate(limits):
        if not is_integer_pair(pair) or pair[0] >= pair[1]:
            return (0, k)
    return forms_fault(limits, forms)


def forms_fault(limits, forms):
    """Return the path of the first wrong part of what should be the forms of a frame with these limits, or None."""
    if not isinstance(forms, tuple):
        return (1,)
    for n, form in enumerate(forms):
        if not is_form(form, len(limits)) or (n > 0 and form <= forms[n - 1]):
            return (1, n)
    for low, high in limit_pairs(limits):
        if low not in forms or high not in forms:
            return (1,)
    return None


def frame_of(limits, forms):
    """Return the frame with these limits whose forms are the limit forms and those of a list."""
    told = [form for pair in limit_pairs(limits) for form in pair]
    return (limits, tuple(sorted(set(told + list(forms)))))


def signs_at(frame, standing):
    """Return the row of signs that a standing has, also outside of the limits."""
    return tuple([sign_at(form, standing) for form in frame[1]])


def is_row_of_signs(frame, value):
    """Return whether value, which may be anything, is a tuple with -1, 0 or 1 for each form of a frame."""
    if not isinstance(value, tuple) or len(value) != len(frame[1]):
        return False
    return all(is_integer(n) and -1 <= n <= 1 for n in value)


def is_within(frame, standing):
    """Return whether a standing is within a frame."""
    return is_in_limits(frame[0], standing)


def refuse_too_great(frame):
    """Raise TooGreat() if a frame has too many forms for all its cells to be looked through."""
    limits, forms = frame
    if len(forms) > MOST_FORMS[len(limits) - 1]:
        raise TooGreat()
    if len(limits) == 3 and len(forms) > MOST_SLANTED and not all(is_upright(form) for form in forms):
        raise TooGreat()


def is_upright(form):
    """Return whether just one number of a form behind the first one is not 0."""
    return form[1:].count(0) == len(form) - 2
