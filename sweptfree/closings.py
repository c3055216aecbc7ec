"""The closing of a cell, told by its corners: the cell is all of it but its rim.

A corner is a pair (point, zeros). The point is a tuple of integers without a common divisor, the first one above 0:
the others, divided by it, are the fractions of the standing. zeros is an integer whose digit n, in the system of two,
is 1 if the form n of the frame is 0 there, of the limit forms and of those that have been looked at.
"""

from sweptfree.forms import limit_pairs, lowered


def closing_of(frame, signs):
    """Return the list of the corners of the closing of the cell with a row of signs, [] if there is no such cell."""
    corners = [((1,), 0)]
    for ends in limit_ends(frame):
        corners = spread(corners, [end for end in ends if signs[end[1]] == 0] or ends)
    for n, form in enumerate(frame[1]):
        values = [value_at_corner(form, point) for point, _ in corners]
        corners = parted(corners, values, n, len(frame[0]))[signs[n] + 1]
    return corners


def limit_ends(frame):
    """Return for each slider the list of its low and its high, each with the number of its limit form."""
    limits, forms = frame
    pairs = [[forms.index(form) for form in pair] for pair in limit_pairs(limits)]
    return [list(zip(pair, numbers)) for pair, numbers in zip(limits, pairs)]


def spread(corners, ends):
    """Return the corners of what has one slider more, which is at one of these ends, or goes from one to the other."""
    return [(point + (end,), zeros | (1 << n)) for point, zeros in corners for end, n in ends]


def value_at_corner(form, point):
    """Return an integer with the sign of a form at the point of a corner."""
    return sum([n * x for n, x in zip(form, point)])


def parted(corners, values, n, sliders):
    """Return three lists of corners: of the parts of a cell in which the form n is below 0, 0, and above 0.

    values tells the values of the form at the corners. Where there is no part the list is [].
    """
    low = [corner for corner, value in zip(corners, values) if value < 0]
    high = [corner for corner, value in zip(corners, values) if value > 0]
    on = [(point, zeros | (1 << n)) for (point, zeros), value in zip(corners, values) if value == 0]
    if not low and not high:
        return [], on, []
    if not low:
        return [], [], high + on
    if not high:
        return low + on, [], []
    on.extend(crossings(corners, values, n, sliders))
    return low + on, on, high + on


def crossings(corners, values, n, sliders):
    """Return the list of the corners at which the form n is 0 between two corners of a cell."""
    found = []
    for (p, p_zeros), p_value in zip(corners, values):
        if p_value < 0:
            for (q, q_zeros), q_value in zip(corners, values):
                if q_value > 0 and is_edge(p_zeros & q_zeros, sliders):
                    point = lowered([q_value * x - p_value * y for x, y in zip(p, q)])
                    found.append((point, p_zeros & q_zeros | (1 << n)))
    return found


def is_edge(zeros, sliders):
    """Return whether all that lies between two corners is one edge, by the forms that are 0 at both.

    Unlike forms that are 0 at one point have flats of unlike directions: so any two of them leave just a line in
    three sliders, and one does so in two.
    """
    if sliders == 3:
        return zeros & (zeros - 1) != 0
    return sliders == 1 or zeros != 0
