"""All cells of a frame, each with its dimension and the corners of its closing.

A body is a tuple (signs, dimension, mask). The mask is an integer whose digit n, in the system of two, is 1 if the
corner number n is one of the cell's closing. Points and forms have four numbers here, with 0 for sliders that are not
there; a point's first one is above 0, and the others, divided by it, are the fractions of the standing.
"""

from sweptfree.forms import lowered


def all_bodies(frame):
    """Return the list of the bodies of all cells of a frame, ascending by their signs."""
    points, bodies = box_bodies(frame[0])
    for form in frame[1]:
        bodies = cut_bodies(points, bodies, form + (0,) * (4 - len(form)))
    return sorted(bodies)


def box_bodies(limits):
    """Return the list of the corners of the box of the limits, and that of the bodies of the box and of its rim."""
    points, bodies = [(1,)], [((), 0, 1)]
    for low, high in limits:
        many = len(points)
        points = [point + (low,) for point in points] + [point + (high,) for point in points]
        bodies = ([(signs, dimension, mask) for signs, dimension, mask in bodies]
                  + [(signs, dimension + 1, mask | mask << many) for signs, dimension, mask in bodies]
                  + [(signs, dimension, mask << many) for signs, dimension, mask in bodies])
    return [point + (0,) * (4 - len(point)) for point in points], bodies


def cut_bodies(points, bodies, form):
    """Return the list of the bodies that are left when a form parts such; the points it adds come behind the others."""
    values = values_at(points, form)
    low, high = side_masks(values)
    found, cut = [], []
    for body in bodies:
        signs, dimension, mask = body
        if not mask & low:
            found.append((signs + ((1,) if mask & high else (0,)), dimension, mask))
        elif not mask & high:
            found.append((signs + (-1,), dimension, mask))
        else:
            cut.append(body)
    crossings = cut_edges(points, values, low, high, cut)
    for signs, dimension, mask in cut:
        on = mask & ~(low | high)
        for edge, corner in crossings:
            if edge & mask == edge:
                on = on | corner
        found.append((signs + (-1,), dimension, mask & low | on))
        found.append((signs + (0,), dimension - 1, on))
        found.append((signs + (1,), dimension, mask & high | on))
    return found


def values_at(points, form):
    """Return the list of the values of a form at points, each in the parts that make 1 there."""
    a, b, c, d = form
    return [a * w + b * x + c * y + d * z for w, x, y, z in points]


def side_masks(values):
    """Return the mask of the corners with a value below 0, and that of those with one above."""
    low, high = 0, 0
    corner = 1
    for value in values:
        if value < 0:
            low = low | corner
        elif value > 0:
            high = high | corner
        corner = corner << 1
    return low, high


def cut_edges(points, values, low, high, cut):
    """Put a point on each edge among bodies that are cut; return the pairs (mask of the edge, mask of this corner)."""
    crossings = []
    for _, dimension, mask in cut:
        if dimension == 1:
            p, q = (mask & low).bit_length() - 1, (mask & high).bit_length() - 1
            crossings.append((mask, 1 << len(points)))
            points.append(lowered([values[q] * x - values[p] * y for x, y in zip(points[p], points[q])]))
    return crossings


def bodies_beside(bodies):
    """Return a dict that has for each cell of bodies the list of those of them that are beside it.

    A cell underlies another one exactly if all its corners are among those of the other one.
    """
    beside = {signs: [] for signs, _, _ in bodies}
    around = bodies_around(bodies)
    for signs, dimension, mask in bodies:
        for other, other_mask in around.get((mask & -mask, dimension + 1), []):
            if mask & other_mask == mask:
                beside[signs].append(other)
                beside[other].append(signs)
    return beside


def bodies_around(bodies):
    """Return a dict that has for each corner and dimension the list of the pairs (signs, mask) of the bodies there."""
    around = {}
    for signs, dimension, mask in bodies:
        rest = mask
        while rest:
            corner = rest & -rest
            rest = rest ^ corner
            around.setdefault((corner, dimension), []).append((signs, mask))
    return around
