"""Forms of bodies: contacts and bars of two bodies and of modes, forms of limits and places, room bars."""

from sweptfree.forms import in_parts, is_constant, limit_pairs, sign_at, value_in_parts, value_of
from sweptfree.outlines import body_outline, outline_contacts, outline_of, pair_of
from sweptfree.places import are_joined, fixed, looked_at, marks_of, moved_on, mover_hanging


def made_form(numbers):
    """Return the pair (form, side) of a tuple of integers, those behind the first one not all 0."""
    return pair_of(numbers[0], numbers[1:])


def form_value(form, standing):
    """Return the value of a form at a standing, a fraction."""
    return value_of(form, standing)


def form_sign(form, standing):
    """Return the sign of a form at a standing."""
    return sign_at(form, standing)


def bars_at(contact, standing):
    """Return whether a contact bars a standing: whether all its pairs are kept there."""
    point = in_parts(standing)
    for form, side in contact:
        if side * value_in_parts(form, point) <= 0:
            return False
    return True


def apart_at(contact, standing):
    """Return whether a contact is apart at a standing: whether one of its pairs is crossed there."""
    point = in_parts(standing)
    for form, side in contact:
        if side * value_in_parts(form, point) < 0:
            return True
    return False


def contacts_of(scene, mode):
    """Return the ascending list of the contacts of a mode, each once."""
    return ascending(mode_contacts(scene, mode)[0])


def bars_of(scene, mode):
    """Return the ascending list of the bars of a mode, each once."""
    return ascending(mode_contacts(scene, mode)[1])


def contacts_between(scene, mode, one, other):
    """Return the pair (contacts, bars) of ascending lists for two bodies by their marks, the one less."""
    contacts, bars = outline_contacts(body_outline(scene, mode, one), body_outline(scene, mode, other))
    return (ascending(contacts), ascending(bars))


def ascending(values):
    """Return the ascending list of values, each once."""
    return sorted(set(values))


def mode_contacts(scene, mode):
    """Return the lists of the contacts and of the bars of all bodies that are looked at in a mode."""
    outlines = {mark: body_outline(scene, mode, mark) for mark in marks_of(scene, mode)}
    contacts, bars = [], []
    for one, other in looked_at(scene, mode):
        some, some_bars = outline_contacts(outlines[one], outlines[other])
        contacts.extend(some)
        bars.extend(some_bars)
    return contacts, bars


def limit_forms(scene):
    """Return the ascending list of the forms of the limits."""
    return sorted([form for pair in limit_pairs(scene[0]) for form in pair])


def forms_in(contacts):
    """Return the ascending list of all forms in a list of contacts, each once."""
    return ascending([form for contact in contacts for form, _ in contact])


def place_forms(scene, mover, point):
    """Return the ascending list of the place forms of a mover and a point, or None if it never stands there."""
    across, up = mover_hanging(scene, mover)
    rows = [row for row in (moved_on(across, -point[0]), moved_on(up, -point[1])) if any(row)]
    if any(is_constant(row) for row in rows):
        return None
    return ascending([made_form(row)[0] for row in rows])


def room_bars(scene, mode, number):
    """Return the ascending list of the room bars, each once, of the turn deed with a number."""
    room = room_outline(scene, number)
    bars = []
    for mark in marks_in_room(scene, mode, number):
        bars.extend(outline_contacts(room, body_outline(scene, mode, mark))[1])
    return ascending(bars)


def room_outline(scene, number):
    """Return the outline of the room of a turn deed, laid at its place."""
    _, _, _, _, place, room, _ = scene[5][number]
    return outline_of(room, fixed(scene, place))


def marks_in_room(scene, mode, number):
    """Return the list of the marks of the bodies that may not be in the room of a turn."""
    mover = scene[5][number][1]
    return [mark for mark in marks_of(scene, mode) if counts_in_room(scene, mover, mark)]


def counts_in_room(scene, mover, mark):
    """Return whether a body may not be in a room in which a mover turns."""
    if mark[0] == 1:
        return True
    return mark != (0, mover) and not are_joined(scene, mover, mark)
