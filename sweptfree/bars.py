"""Forms of bodies: contacts and bars of two bodies and of modes, forms of limits and places, room bars."""

from sweptfree.forms import gcd_of, in_parts, is_constant, leading_sign, limit_pairs, sign_at, value_in_parts, value_of
from sweptfree.pieces import turned_about
from sweptfree.places import are_joined, fixed, hanging, looked_at, marks_of, moved_on, mover_hanging, shape_of
from sweptfree.scenes import added
from sweptfree.sums import merged, steps_of


def made_form(numbers):
    """Return the pair (form, side) of a tuple of integers, those behind the first one not all 0."""
    side, divisor = leading_sign(numbers), gcd_of(numbers)
    if divisor == 1 and side > 0:
        return (tuple(numbers), side)
    divisor = side * divisor
    return (tuple([n // divisor for n in numbers]), side)


def form_value(form, standing):
    """Return the value of a form at a standing, a fraction."""
    return value_of(form, standing)


def form_sign(form, standing):
    """Return the sign of a form at a standing."""
    return sign_at(form, standing)


def bars_at(contact, standing):
    """Return whether a contact bars a standing: whether all its pairs are kept there."""
    point = in_parts(standing)
    for form, side in contact:
        if side * value_in_parts(form, point) <= 0:
            return False
    return True


def apart_at(contact, standing):
    """Return whether a contact is apart at a standing: whether one of its pairs is crossed there."""
    point = in_parts(standing)
    for form, side in contact:
        if side * value_in_parts(form, point) < 0:
            return True
    return False


def contacts_of(scene, mode):
    """Return the ascending list of the contacts of a mode, each once."""
    return ascending(mode_contacts(scene, mode)[0])


def bars_of(scene, mode):
    """Return the ascending list of the bars of a mode, each once."""
    return ascending(mode_contacts(scene, mode)[1])


def contacts_between(scene, mode, one, other):
    """Return the pair (contacts, bars) of ascending lists for two bodies by their marks, the one less."""
    contacts, bars = body_contacts(scene, mode, one, other)
    return (ascending(contacts), ascending(bars))


def ascending(values):
    """Return the ascending list of values, each once."""
    return sorted(set(values))


def mode_contacts(scene, mode):
    """Return the lists of the contacts and of the bars of all bodies that are looked at in a mode."""
    contacts, bars = [], []
    for one, other in looked_at(scene, mode):
        some, some_bars = body_contacts(scene, mode, one, other)
        contacts.extend(some)
        bars.extend(some_bars)
    return contacts, bars


def body_contacts(scene, mode, one, other):
    """Return the lists of the contacts and of the bars of two bodies."""
    away = difference(hanging(scene, mode, one), hanging(scene, mode, other))
    return shape_contacts(shape_of(scene, mode, one), shape_of(scene, mode, other), away)


def difference(hung, other):
    """Return how the way from one place to another, hung as told, comes of a standing."""
    (across, up), (other_across, other_up) = hung, other
    x = tuple([a - b for a, b in zip(across, other_across)])
    y = tuple([a - b for a, b in zip(up, other_up)])
    return (x, y)


def shape_contacts(one, other, away):
    """Return the lists of the contacts and of the bars of two shapes, the one being so far away from the other."""
    contacts, bars = [], []
    starts = [(piece[0], steps_of(piece)) for piece in other]
    for piece in one:
        about = turned_about(piece)
        steps = steps_of(about)
        for start, others in starts:
            contact, least = contact_within(added(about[0], start), merged(others, steps), away)
            if least >= 0:
                contacts.append(contact)
            if least > 0:
                bars.append(contact)
    return contacts, bars


def contact_within(corner, steps, away):
    """Return the contact of two pieces, and the least c0 of its constant edges, or 1.

    The sum of the one and the other turned about begins at a corner, and has such steps as its edges.
    """
    pairs, least = [], 1
    x, y = corner
    for run, rise in steps:
        teller = [run * b - rise * a for a, b in zip(away[0], away[1])]
        teller[0] += rise * x - run * y
        if any(teller[1:]):
            pairs.append(made_form(teller))
        else:
            least = min(least, teller[0])
        x, y = x + run, y + rise
    return tuple(ascending(pairs)), least


def limit_forms(scene):
    """Return the ascending list of the forms of the limits."""
    return sorted([form for pair in limit_pairs(scene[0]) for form in pair])


def forms_in(contacts):
    """Return the ascending list of all forms in a list of contacts, each once."""
    return ascending([form for contact in contacts for form, _ in contact])


def place_forms(scene, mover, point):
    """Return the ascending list of the place forms of a mover and a point, or None if it never stands there."""
    across, up = mover_hanging(scene, mover)
    rows = [row for row in (moved_on(across, -point[0]), moved_on(up, -point[1])) if any(row)]
    if any(is_constant(row) for row in rows):
        return None
    return ascending([made_form(row)[0] for row in rows])


def room_bars(scene, mode, number):
    """Return the ascending list of the room bars, each once, of the turn deed with a number."""
    bars = []
    for mark in marks_in_room(scene, mode, number):
        bars.extend(bars_of_room(scene, mode, number, mark))
    return ascending(bars)


def marks_in_room(scene, mode, number):
    """Return the list of the marks of the bodies that may not be in the room of a turn."""
    mover = scene[5][number][1]
    return [mark for mark in marks_of(scene, mode) if counts_in_room(scene, mover, mark)]


def bars_of_room(scene, mode, number, mark):
    """Return the list of the bars of the room of a turn and of a body."""
    _, _, _, _, place, room, _ = scene[5][number]
    away = difference(fixed(scene, place), hanging(scene, mode, mark))
    return shape_contacts(room, shape_of(scene, mode, mark), away)[1]


def counts_in_room(scene, mover, mark):
    """Return whether a body may not be in a room in which a mover turns."""
    if mark[0] == 1:
        return True
    return mark != (0, mover) and not are_joined(scene, mover, mark)
