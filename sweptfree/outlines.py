"""Outlines of bodies, and the contacts and bars of two of them.

An outline is a tuple (starts, abouts, hung). starts has for each piece of the body its first corner and its edges as
steps, abouts the same for the piece turned about, and hung tells how the body's place comes of a standing.
"""

from math import gcd

from sweptfree.pieces import turned_about
from sweptfree.places import hanging, shape_of
from sweptfree.sums import merged, steps_of


def body_outline(scene, mode, mark):
    """Return the outline of the body with a mark."""
    return outline_of(shape_of(scene, mode, mark), hanging(scene, mode, mark))


def outline_of(shape, hung):
    """Return the outline of a shape whose place is hung as told."""
    starts = [(piece[0], steps_of(piece)) for piece in shape]
    abouts = [(piece[0], steps_of(piece)) for piece in [turned_about(piece) for piece in shape]]
    return (starts, abouts, hung)


def outline_contacts(one, other):
    """Return the lists of the contacts and of the bars of two bodies by their outlines."""
    _, abouts, (across, up) = one
    starts, _, (other_across, other_up) = other
    away = [(a - c, b - d) for a, b, c, d in zip(across, up, other_across, other_up)]
    contacts, bars = [], []
    for (x, y), steps in abouts:
        for (u, v), others in starts:
            contact, least = contact_within(x + u, y + v, merged(others, steps), away)
            if least >= 0:
                contacts.append(contact)
            if least > 0:
                bars.append(contact)
    return contacts, bars


def contact_within(x, y, steps, away):
    """Return the contact of two pieces, and the least c0 of its constant edges, or 1.

    The sum of the one and the other turned about begins at the corner (x, y), and has such steps as its edges. away
    tells how the one is away from the other: a pair of numbers for c0, and one for each slider.
    """
    pairs, least = [], 1
    x, y = x - away[0][0], y - away[0][1]
    slopes = away[1:]
    for run, rise in steps:
        first = rise * x - run * y
        pair = pair_of(first, [run * b - rise * a for a, b in slopes])
        if pair is None:
            least = min(least, first)
        else:
            pairs.append(pair)
        x, y = x + run, y + rise
    return tuple(sorted(set(pairs))), least


def pair_of(first, numbers):
    """Return the pair (form, side) that comes of c0 and the numbers behind it, or None if these are all 0."""
    divisor, side = first, 0
    for n in numbers:
        if n != 0:
            divisor = gcd(divisor, n)
            if side == 0:
                side = 1 if n > 0 else -1
    if side == 0:
        return None
    if divisor == 1 and side == 1:
        return ((first, *numbers), side)
    divisor = divisor * side
    return ((first // divisor, *[n // divisor for n in numbers]), side)
