"""The bench: a plan gone through step by step, and what touches on its goes."""

from math import lcm

from sweptfree.forms import in_parts
from sweptfree.fractions import less, made
from sweptfree.known import Known
from sweptfree.legs import height_at, standing_at
from sweptfree.tasks import mode_behind


def touches_on(scene, mode, q, r):
    """Return the ascending list of the touches (pair, low, high) of a go from a standing to another one."""
    return touches_by_pairs(Known(scene).contacts_by_pairs(mode), q, r)


def touches_by_pairs(rows, q, r):
    """Return the touches of a go, the contacts being told for each pair of marks that is looked at."""
    start, end = in_parts(q), in_parts(r)
    touches = []
    for pair, contacts in rows:
        spans = [touching_span(contact, start, end) for contact in contacts]
        for low, high in put_together([told for told in spans if told is not None]):
            touches.append((pair, low, high))
    return touches


def touching_span(contact, start, end):
    """Return from when to when no pair of a contact is crossed between two standings in parts, or None.

    A pair is crossed where its height is above 0: at all moments ahead of one, or behind one.
    """
    low, high = (0, 1), (1, 1)
    for pair in contact:
        first, last = height_at(pair, start), height_at(pair, end)
        if first > 0 and last > 0:
            return None
        if first > 0 or last > 0:
            moment = made(first * end[0], first * end[0] - last * start[0])
            if first > 0 and less(low, moment):
                low = moment
            elif last > 0 and less(moment, high):
                high = moment
    return None if less(high, low) else (low, high)


def put_together(spans):
    """Return the ascending list of the spans that are left when those that share a moment are put together."""
    many = 1
    for low, high in spans:
        many = lcm(many, low[1], high[1])
    found = []
    for low, high in sorted([(a[0] * (many // a[1]), b[0] * (many // b[1])) for a, b in spans]):
        if found and low <= found[-1][1]:
            first, last = found[-1]
            found[-1] = (first, max(last, high))
        else:
            found.append((low, high))
    return [(made(low, many), made(high, many)) for low, high in found]


class Bench:
    """A bench for a right plan."""

    def __init__(self, scene, task, plan):
        self.known = Known(scene)
        self.row = plan
        self.places = positions_of(scene, task, plan)

    def steps(self):
        """Return how many steps the plan has."""
        return len(self.row)

    def position(self, k):
        """Return the position (mode, standing) behind k steps."""
        return self.places[k]

    def standing(self, k, t):
        """Return the standing at a moment of the step with a number, which is a go."""
        return standing_at(self.places[k][1], self.row[k][1], t)

    def touches(self, k):
        """Return the list of the touches of the step with a number, which is a go."""
        mode, standing = self.places[k]
        return touches_by_pairs(self.known.contacts_by_pairs(mode), standing, self.row[k][1])

    def is_quiet(self):
        """Return whether nothing touches anything at any moment of any go."""
        for k, (word, _) in enumerate(self.row):
            if word == "go" and self.touches(k):
                return False
        return True


def positions_of(scene, task, plan):
    """Return the list of the positions behind 0 steps, behind one, and so on."""
    standing, mode, _ = task
    positions = [(mode, standing)]
    for word, aim in plan:
        if word == "go":
            standing = aim
        else:
            mode = mode_behind(scene, mode, aim)
        positions.append((mode, standing))
    return positions
