"""Charts of tasks: all modes, the frame, and what can be done in each mode, told by numbers of modes and of forms.

A node is told by a pair (k, signs) here, k being the number of a mode.
"""

from sweptfree.bars import forms_in, place_forms
from sweptfree.cells import cofaces, faces
from sweptfree.frames import frame_of, refuse_too_great
from sweptfree.known import Known
from sweptfree.rooms import in_numbers, is_free
from sweptfree.tasks import mode_behind, modes_of, mover_and_place


class Chart:
    """The chart of a task; its moves are, for each mode, tuples (deed, mode behind, forms that are 0, room bars).

    Deeds whose mover never stands at their place are left out, and such a goal of a mover has None for its forms.
    """

    def __init__(self, scene, task):
        self.start, _, self.goals = task
        self.modes = modes_of(scene, task[1])
        self.mode_numbers = {mode: k for k, mode in enumerate(self.modes)}
        self.first = self.mode_numbers[task[1]]
        known = Known(scene)
        bars = [known.bars_in(mode) for mode in self.modes]
        fits = [fitting(scene, mode) for mode in self.modes]
        rooms = [[known.bars_in_room(mode, n) for n, _ in row] for mode, row in zip(self.modes, fits)]
        places = deed_places(scene, sorted(set([n for row in fits for n, _ in row])))
        aims = [goal_forms(scene, goal) for goal in self.goals]
        self.frame = frame_of(scene[0], all_forms(bars, rooms, list(places.values()) + aims))
        self.bars = [in_numbers(self.frame, row) for row in bars]
        self.aims = [in_form_numbers(self.frame, forms) for forms in aims]
        zeros = {n: in_form_numbers(self.frame, places[n]) for n in places}
        self.moves = []
        for row, barred in zip(fits, rooms):
            moves = [(n, self.mode_numbers[behind], zeros[n], in_numbers(self.frame, room))
                     for (n, behind), room in zip(row, barred)]
            self.moves.append([move for move in moves if move[2] is not None])

    def is_node(self, k, signs):
        """Return whether a cell is free in the mode with a number."""
        return is_free(self.bars[k], signs)

    def deeds_from(self, k, signs):
        """Return the list of the pairs (deed, number of the mode behind) of what can be done at a node."""
        found = []
        for n, behind, zeros, room in self.moves[k]:
            if are_nought(zeros, signs) and is_free(self.bars[behind], signs) and is_free(room, signs):
                found.append((n, behind))
        return found

    def next_to(self, k, signs):
        """Return the ascending list of the nodes to which one move leads from a node, each once."""
        cells = faces(self.frame, signs) + cofaces(self.frame, signs)
        nodes = [(k, cell) for cell in cells if self.is_node(k, cell)]
        nodes.extend([(behind, signs) for _, behind in self.deeds_from(k, signs)])
        return sorted(set(nodes))

    def is_goal(self, k, signs):
        """Return whether all goals are met at a node."""
        return self.has_things_laid(k) and self.has_movers_placed(signs)

    def has_things_laid(self, k):
        """Return whether all goals of things are met in the mode with a number."""
        lies = self.modes[k][0]
        return all(goal[0] != "thing" or lies[goal[1]] == goal[2] for goal in self.goals)

    def has_movers_placed(self, signs):
        """Return whether all goals of movers are met in a cell."""
        return all(are_nought(zeros, signs) for zeros in self.aims)


def whole_chart(scene, task):
    """Return the chart of a task, or raise TooGreat()."""
    chart = Chart(scene, task)
    refuse_too_great(chart.frame)
    return chart


def fitting(scene, mode):
    """Return the list of the pairs (number, mode behind) of all deeds that fit a mode."""
    pairs = [(number, mode_behind(scene, mode, number)) for number in range(len(scene[5]))]
    return [(number, behind) for number, behind in pairs if behind is not None]


def deed_places(scene, numbers):
    """Return a dict of the place forms of each of these deeds, None where its mover can never stand there."""
    places = {}
    for number in numbers:
        mover, place = mover_and_place(scene, number)
        places[number] = place_forms(scene, mover, place)
    return places


def goal_forms(scene, goal):
    """Return the place forms of a goal of a mover, or None, and [] for a goal of a thing."""
    word, number, aim = goal
    return place_forms(scene, number, aim) if word == "mover" else []


def all_forms(bars, rooms, places):
    """Return the list of all forms that there are, those of the limits left out."""
    lists = bars + [room for row in rooms for room in row]
    forms = [form for row in lists for form in forms_in(row)]
    return forms + [form for row in places if row is not None for form in row]


def in_form_numbers(frame, forms):
    """Return the list of the numbers of forms in a frame, or None for None."""
    return None if forms is None else [frame[1].index(form) for form in forms]


def are_nought(zeros, signs):
    """Return whether forms, by their numbers, are 0 in a row of signs; None is told where they cannot be."""
    return zeros is not None and all(signs[n] == 0 for n in zeros)
