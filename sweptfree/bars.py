"""Forms of bodies: contacts and bars of two bodies and of modes, forms of limits and places, room bars."""

from sweptfree.forms import is_constant, leading_sign, limit_pairs, lowered, sign_at, value_of
from sweptfree.pieces import edges_of, turned_about
from sweptfree.places import are_joined, fixed, hanging, looked_at, marks_of, moved_on, mover_hanging, shape_of
from sweptfree.sums import sum_of


def made_form(numbers):
    """Return the pair (form, side) of a tuple of integers, those behind the first one not all 0."""
    form = lowered(numbers)
    if leading_sign(form) > 0:
        return (form, 1)
    return (tuple(-n for n in form), -1)


def form_value(form, standing):
    """Return the value of a form at a standing, a fraction."""
    return value_of(form, standing)


def form_sign(form, standing):
    """Return the sign of a form at a standing."""
    return sign_at(form, standing)


def bars_at(contact, standing):
    """Return whether a contact bars a standing: whether all its pairs are kept there."""
    return all(sign_at(form, standing) == side for form, side in contact)


def apart_at(contact, standing):
    """Return whether a contact is apart at a standing: whether one of its pairs is crossed there."""
    return any(sign_at(form, standing) == -side for form, side in contact)


def contacts_of(scene, mode):
    """Return the ascending list of the contacts of a mode, each once."""
    return ascending(mode_contacts(scene, mode)[0])


def bars_of(scene, mode):
    """Return the ascending list of the bars of a mode, each once."""
    return ascending(mode_contacts(scene, mode)[1])


def contacts_between(scene, mode, one, other):
    """Return the pair (contacts, bars) of ascending lists for two bodies by their marks, the one less."""
    contacts, bars = body_contacts(scene, mode, one, other)
    return (ascending(contacts), ascending(bars))


def ascending(values):
    """Return the ascending list of values, each once."""
    return sorted(set(values))


def mode_contacts(scene, mode):
    """Return the lists of the contacts and of the bars of all bodies that are looked at in a mode."""
    contacts, bars = [], []
    for one, other in looked_at(scene, mode):
        some, some_bars = body_contacts(scene, mode, one, other)
        contacts.extend(some)
        bars.extend(some_bars)
    return contacts, bars


def body_contacts(scene, mode, one, other):
    """Return the lists of the contacts and of the bars of two bodies."""
    away = difference(hanging(scene, mode, one), hanging(scene, mode, other))
    return shape_contacts(shape_of(scene, mode, one), shape_of(scene, mode, other), away)


def difference(hung, other):
    """Return how the way from one place to another, hung as told, comes of a standing."""
    (across, up), (other_across, other_up) = hung, other
    x = tuple([a - b for a, b in zip(across, other_across)])
    y = tuple([a - b for a, b in zip(up, other_up)])
    return (x, y)


def shape_contacts(one, other, away):
    """Return the lists of the contacts and of the bars of two shapes, the one being so far away from the other."""
    contacts, bars = [], []
    for piece in one:
        about = turned_about(piece)
        for b in other:
            rows = tellers(sum_of(b, about), away)
            contact = tuple(ascending([made_form(row) for row in rows if not is_constant(row)]))
            least = min([row[0] for row in rows if is_constant(row)], default=1)
            if least >= 0:
                contacts.append(contact)
            if least > 0:
                bars.append(contact)
    return contacts, bars


def tellers(corners, away):
    """Return the list of the tellers of the edges of a sum with these corners."""
    return [teller(u, v, away) for u, v in edges_of(corners)]


def teller(u, v, away):
    """Return the numbers that tell on which side of the line from u to v the end of a way is."""
    x, y = away
    run, rise = v[0] - u[0], v[1] - u[1]
    return tuple([run * b - rise * a for a, b in zip(moved_on(x, -u[0]), moved_on(y, -u[1]))])


def limit_forms(scene):
    """Return the ascending list of the forms of the limits."""
    return sorted([form for pair in limit_pairs(scene[0]) for form in pair])


def forms_in(contacts):
    """Return the ascending list of all forms in a list of contacts, each once."""
    return ascending([form for contact in contacts for form, _ in contact])


def place_forms(scene, mover, point):
    """Return the ascending list of the place forms of a mover and a point, or None if it never stands there."""
    across, up = mover_hanging(scene, mover)
    rows = [row for row in (moved_on(across, -point[0]), moved_on(up, -point[1])) if any(row)]
    if any(is_constant(row) for row in rows):
        return None
    return ascending([made_form(row)[0] for row in rows])


def room_bars(scene, mode, number):
    """Return the ascending list of the room bars, each once, of the turn deed with a number."""
    _, m, _, _, place, room, _ = scene[5][number]
    bars = []
    for mark in marks_of(scene, mode):
        if counts_in_room(scene, m, mark):
            away = difference(fixed(scene, place), hanging(scene, mode, mark))
            bars.extend(shape_contacts(room, shape_of(scene, mode, mark), away)[1])
    return ascending(bars)


def counts_in_room(scene, mover, mark):
    """Return whether a body may not be in a room in which a mover turns."""
    if mark[0] == 1:
        return True
    return mark != (0, mover) and not are_joined(scene, mover, mark)
