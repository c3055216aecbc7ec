"""Ways in turns, on which one slider after another moves."""

from sweptfree.errors import TooGreat
from sweptfree.fractions import floor_of, less, minus, over, plus, times, whole
from sweptfree.legs import slack_on, standing_at
from sweptfree.ways import legs_of

MOST_PACES = 400


def stretch_on(contact, q, r):
    """Return the stretch of a contact on a leg, a fraction, nought for ()."""
    steps = [size_of(minus(y, x)) for x, y in zip(q, r)]
    greatest = (0, 1)
    for form, _ in contact:
        stretch = (0, 1)
        for n, step in zip(form[1:], steps):
            stretch = plus(stretch, times(whole(abs(n)), step))
        if less(greatest, stretch):
            greatest = stretch
    return greatest


def size_of(x):
    """Return a fraction without its sign."""
    return (abs(x[0]), x[1])


def paces_of(contacts, q, r):
    """Return the paces of a clear leg, a number."""
    return max([paces_for(contact, q, r) for contact in contacts], default=1)


def paces_for(contact, q, r):
    """Return the least number of at least 1 by which the slack on a leg comes above the stretch."""
    return floor_of(over(stretch_on(contact, q, r), slack_on(contact, q, r))) + 1


def is_in_turns(way):
    """Return whether in each leg of a way at most one slider changes."""
    return all(many_changes(q, r) <= 1 for q, r in legs_of(way))


def many_changes(q, r):
    """Return how many sliders change on a leg."""
    return len([k for k, x in enumerate(q) if x != r[k]])


def in_turns(limits, contacts, way):
    """Return a clear way in turns with the ends of a clear way, or raise TooGreat()."""
    legs = legs_of(way)
    paces = [paces_of(contacts, q, r) for q, r in legs]
    if max(paces) > MOST_PACES:
        raise TooGreat()
    standings = [way[0]]
    for many, (q, r) in zip(paces, legs):
        standings.extend(leg_in_turns(q, r, many))
    return tuple(standings)


def leg_in_turns(q, r, many):
    """Return the list of the standings behind the first one, when a leg is gone in so many paces in turns."""
    if many_changes(q, r) <= 1:
        return [r] if q != r else []
    standings = []
    now = q
    for n in range(many):
        aim = standing_at(q, r, over(whole(n + 1), whole(many)))
        for k, x in enumerate(aim):
            if now[k] != x:
                now = now[:k] + (x,) + now[k + 1:]
                standings.append(now)
    return standings
