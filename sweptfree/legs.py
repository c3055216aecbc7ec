"""Legs, straight from one standing to another: what is barred on them, and by how much it is not.

Standings are told in parts here (sweptfree.forms.in_parts), and a pair's height is -side * the value of its form.
"""

from sweptfree.forms import in_parts, is_in_limits, value_in_parts
from sweptfree.fractions import less, made, minus, plus, times


def slack_at(contact, standing):
    """Return the slack of a contact at a standing, a fraction, or None for ()."""
    if contact == ():
        return None
    point = in_parts(standing)
    return made(max([height_at(pair, point) for pair in contact]), point[0])


def height_at(pair, point):
    """Return the height of a pair, in the parts in which the standing is told."""
    form, side = pair
    return -side * value_in_parts(form, point)


def standing_at(q, r, moment):
    """Return the standing of a leg at a moment."""
    return tuple([plus(x, times(minus(y, x), moment)) for x, y in zip(q, r)])


def span(contact, q, r):
    """Return the span of a contact on a leg, a pair of fractions, or None."""
    return span_between(contact, in_parts(q), in_parts(r))


def span_between(contact, start, end):
    """Return the span of a contact on a leg between two standings in parts, or None.

    A pair is kept where its height is below 0: at all moments ahead of one, or behind one.
    """
    low, high = (0, 1), (1, 1)
    for pair in contact:
        first, last = height_at(pair, start), height_at(pair, end)
        if first >= 0 and last >= 0:
            return None
        if first >= 0 or last >= 0:
            moment = made(first * end[0], first * end[0] - last * start[0])
            if last >= 0 and less(moment, high):
                high = moment
            elif first >= 0 and less(low, moment):
                low = moment
    return (low, high) if less(low, high) else None


def slack_on(contact, q, r):
    """Return the slack of a contact on a leg, a fraction, or None for ()."""
    return None if contact == () else slack_between(contact, in_parts(q), in_parts(r))


def slack_between(contact, start, end):
    """Return the slack of a contact other than () on a leg between two standings in parts."""
    lines = []
    for pair in contact:
        first, last = height_at(pair, start) * end[0], height_at(pair, end) * start[0]
        lines.append((first, last - first))
    above, below = lowest(lines)
    return made(above, below * start[0] * end[0])


def lowest(lines):
    """Return the least height from 0 to 1 of the uppermost of lines (height at 0, rise), as two integers.

    One goes along the uppermost line from 0 on, as long as it falls, and on with the line that comes above it.
    """
    height, rise = max(lines)
    while rise < 0:
        steeper = [line for line in lines if line[1] > rise]
        if not steeper:
            return (height + rise, 1)
        above, below, other = first_crossing(height, rise, steeper)
        if above >= below:
            return (height + rise, 1)
        if other[1] >= 0:
            return (height * below + rise * above, below)
        height, rise = other
    return (height, 1)


def first_crossing(height, rise, steeper):
    """Return at which moment, told as two integers, the first of steeper lines meets a line, and this one.

    Of lines that meet it together it is the steepest.
    """
    found = steeper[0]
    above, below = height - found[0], found[1] - rise
    for line in steeper:
        late, early = (height - line[0]) * below, above * (line[1] - rise)
        if late < early or (late == early and line[1] > found[1]):
            found = line
            above, below = height - line[0], line[1] - rise
    return (above, below, found)


def leg_fault(limits, contacts, q, r):
    """Return None if a leg is free, and otherwise what is the first to make it unfree."""
    for n, standing in enumerate((q, r)):
        if not is_in_limits(limits, standing):
            return ("limits", n)
    return bars_fault(contacts, in_parts(q), in_parts(r))


def bars_fault(contacts, start, end):
    """Return None if no contact has a span between two standings in parts, and otherwise what tells the first."""
    for k, contact in enumerate(contacts):
        barred = span_between(contact, start, end)
        if barred is not None:
            return ("bars", k) + barred
    return None


def is_clear_leg(limits, contacts, q, r):
    """Return whether a leg is clear."""
    if not is_in_limits(limits, q) or not is_in_limits(limits, r):
        return False
    start, end = in_parts(q), in_parts(r)
    return all(is_apart_between(contact, start, end) for contact in contacts)


def is_apart_between(contact, start, end):
    """Return whether a contact is apart at each moment between two standings in parts."""
    for pair in contact:
        if height_at(pair, start) > 0 and height_at(pair, end) > 0:
            return True
    return contact != () and slack_between(contact, start, end)[0] > 0
