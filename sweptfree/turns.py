"""Ways in turns, on which one slider after another moves."""

from sweptfree.errors import TooGreat
from sweptfree.forms import in_parts
from sweptfree.fractions import floor_of, made, over, whole
from sweptfree.legs import slack_between, standing_at
from sweptfree.ways import legs_of

MOST_PACES = 400


def stretch_on(contact, q, r):
    """Return the stretch of a contact on a leg, a fraction, nought for ()."""
    return stretch_between(contact, in_parts(q), in_parts(r))


def stretch_between(contact, start, end):
    """Return the stretch of a contact on a leg between two standings in parts."""
    steps = [abs(y * start[0] - x * end[0]) for x, y in zip(start[1:], end[1:])]
    greatest = 0
    for form, _ in contact:
        greatest = max(greatest, sum([abs(n) * step for n, step in zip(form[1:], steps)]))
    return made(greatest, start[0] * end[0])


def paces_of(contacts, q, r):
    """Return the paces of a clear leg, a number."""
    start, end = in_parts(q), in_parts(r)
    return max([paces_for(contact, start, end) for contact in contacts], default=1)


def paces_for(contact, start, end):
    """Return the least number of at least 1 that makes the slack on a leg greater than the stretch."""
    return floor_of(over(stretch_between(contact, start, end), slack_between(contact, start, end))) + 1


def is_in_turns(way):
    """Return whether in each leg of a way at most one slider changes."""
    return all(many_changes(q, r) <= 1 for q, r in legs_of(way))


def many_changes(q, r):
    """Return how many sliders change on a leg."""
    return len([k for k, x in enumerate(q) if x != r[k]])


def in_turns(limits, contacts, way):
    """Return a clear way in turns with the ends of a clear way, or raise TooGreat()."""
    legs = legs_of(way)
    paces = [paces_of(contacts, q, r) for q, r in legs]
    if max(paces) > MOST_PACES:
        raise TooGreat()
    standings = [way[0]]
    for many, (q, r) in zip(paces, legs):
        standings.extend(leg_in_turns(q, r, many))
    return tuple(standings)


def leg_in_turns(q, r, many):
    """Return the list of the standings behind the first one, when a leg is gone in so many paces in turns."""
    if many_changes(q, r) <= 1:
        return [r] if q != r else []
    standings = []
    now = q
    for n in range(many):
        aim = standing_at(q, r, over(whole(n + 1), whole(many)))
        for k, x in enumerate(aim):
            if now[k] != x:
                now = now[:k] + (x,) + now[k + 1:]
                standings.append(now)
    return standings
