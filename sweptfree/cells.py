"""Cells of frames: their points and dimensions, all of them, and those beside each other."""

from sweptfree.bodies import all_bodies
from sweptfree.closings import closing_of
from sweptfree.forms import limit_pairs, rank
from sweptfree.fractions import integer_sign, made
from sweptfree.frames import refuse_too_great


def point_in(frame, signs):
    """Return a standing within the frame that has a row of signs, or None if this is no cell."""
    corners = closing_of(frame, signs)
    if not corners:
        return None
    total = [sum([point[k] for point, _ in corners]) for k in range(len(frame[0]) + 1)]
    return tuple([made(n, total[0]) for n in total[1:]])


def dimension(frame, signs):
    """Return the dimension of a cell."""
    return len(frame[0]) - rank(zero_forms(frame, signs))


def zero_forms(frame, signs):
    """Return the list of the forms that are 0 in a row of signs."""
    return [form for form, sign in zip(frame[1], signs) if sign == 0]


def underlies(one, other):
    """Return whether the row one has at each form what the row other has there, or 0."""
    for a, b in zip(one, other):
        if a != 0 and a != b:
            return False
    return True


def all_cells(frame):
    """Return the ascending list of all cells of a frame."""
    refuse_too_great(frame)
    return [signs for signs, _, _ in all_bodies(frame)]


def faces(frame, signs):
    """Return the ascending list of the cells beside a cell that underlie it."""
    refuse_too_great(frame)
    corners = closing_of(frame, signs)
    rows = []
    for n, sign in enumerate(signs):
        shared = [zeros for _, zeros in corners if zeros & (1 << n)]
        if sign != 0 and shared:
            row = without_signs(signs, common_digits(shared))
            if row not in rows and dimension(frame, row) == dimension(frame, signs) - 1:
                rows.append(row)
    return sorted(rows)


def common_digits(numbers):
    """Return the integer that has the digits 1 that all of these have."""
    common = numbers[0]
    for n in numbers:
        common = common & n
    return common


def without_signs(signs, zeros):
    """Return a row of signs with 0 at the forms that zeros tells."""
    return tuple([0 if zeros & (1 << n) else sign for n, sign in enumerate(signs)])


def cofaces(frame, signs):
    """Return the ascending list of the cells beside a cell that it underlies."""
    refuse_too_great(frame)
    return cofaces_of(frame, signs)


def cofaces_of(frame, signs):
    """Return the ascending list of the cofaces of a cell, however great the frame is."""
    zeros = [n for n, sign in enumerate(signs) if sign == 0]
    flats = [in_space(frame[1][n]) for n in zeros]
    rows = []
    for x, y, z in ways_out(flats):
        for way in ((x, y, z), (-x, -y, -z)):
            row = list(signs)
            for n, flat in zip(zeros, flats):
                row[n] = integer_sign(dot(flat, way))
            rows.append(tuple(row))
    return sorted(set([row for row in rows if is_in_frame(frame, row)]))


def in_space(form):
    """Return the part of a form without c0, as three numbers."""
    return form[1:] + (0,) * (4 - len(form))


def ways_out(flats):
    """Return the list of the ways on which one leaves a cell for those beside it, the opposite ones left out.

    flats are the forms that are 0 in the cell. A way stays in as many of them as it can without staying in all: in
    none if there is one, in one if all of them share a line, and otherwise in two.
    """
    if len(flats) < 2:
        return flats
    line = crossed(flats[0], flats[1])
    if all(dot(flat, line) == 0 for flat in flats):
        return [crossed(flat, line) for flat in flats]
    return [crossed(flat, other) for k, flat in enumerate(flats) for other in flats[k + 1:]]


def crossed(one, other):
    """Return three numbers that are orthogonal to one and to the other three."""
    (a, b, c), (x, y, z) = one, other
    return (b * z - c * y, c * x - a * z, a * y - b * x)


def dot(one, other):
    """Return the sum of the products."""
    return sum([a * b for a, b in zip(one, other)])


def is_in_frame(frame, row):
    """Return whether the signs of a row are such as the limits let."""
    limits, forms = frame
    for low, high in limit_pairs(limits):
        if row[forms.index(low)] < 0 or row[forms.index(high)] > 0:
            return False
    return True
