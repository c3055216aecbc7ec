"""Charts of tasks: all modes, the frame, and what can be done in each mode, told by numbers of modes and of forms.

A node is told by a pair (k, signs) here, k being the number of a mode.
"""

from sweptfree.bars import forms_in, place_forms
from sweptfree.cells import cofaces, faces
from sweptfree.frames import frame_of, refuse_too_great
from sweptfree.known import Known
from sweptfree.rooms import in_numbers, is_free
from sweptfree.tasks import modes_and_deeds


class Chart:
    """The chart of a task; its moves are, for each mode, tuples (deed, mode behind, forms that are 0, room bars).

    Deeds whose mover never stands at their place are left out, and such a goal of a mover has None for its forms.
    """

    def __init__(self, scene, task):
        self.start, first, self.goals = task
        rows = modes_and_deeds(scene, first)
        self.modes = [mode for mode, _ in rows]
        self.mode_numbers = {mode: k for k, mode in enumerate(self.modes)}
        self.first = self.mode_numbers[first]
        known = Known(scene)
        bars = [known.bars_in(mode) for mode in self.modes]
        moves = [moves_in(known, mode, deeds) for mode, deeds in rows]
        aims = [goal_forms(scene, goal) for goal in self.goals]
        self.frame = frame_of(scene[0], all_forms(bars, moves, aims))
        self.bars = [in_numbers(self.frame, row) for row in bars]
        self.moves = [self.told_in_numbers(row) for row in moves]
        self.aims = [in_form_numbers(self.frame, forms) for forms in aims]

    def told_in_numbers(self, moves):
        """Return the moves of a mode in numbers, those left out whose mover never stands at its place."""
        return [(n, self.mode_numbers[behind], in_form_numbers(self.frame, place), in_numbers(self.frame, room))
                for n, behind, place, room in moves if place is not None]

    def is_node(self, k, signs):
        """Return whether a cell is free in the mode with a number."""
        return is_free(self.bars[k], signs)

    def deeds_from(self, k, signs):
        """Return the list of the pairs (deed, number of the mode behind) of what can be done at a node."""
        found = []
        for n, behind, zeros, room in self.moves[k]:
            if are_nought(zeros, signs) and is_free(self.bars[behind], signs) and is_free(room, signs):
                found.append((n, behind))
        return found

    def next_to(self, k, signs):
        """Return the ascending list of the nodes to which one move leads from a node, each once."""
        cells = faces(self.frame, signs) + cofaces(self.frame, signs)
        nodes = [(k, cell) for cell in cells if self.is_node(k, cell)]
        nodes.extend([(behind, signs) for _, behind in self.deeds_from(k, signs)])
        return sorted(set(nodes))

    def is_goal(self, k, signs):
        """Return whether all goals are met at a node."""
        return self.has_things_laid(k) and self.has_movers_placed(signs)

    def has_things_laid(self, k):
        """Return whether all goals of things are met in the mode with a number."""
        lies = self.modes[k][0]
        return all(goal[0] != "thing" or lies[goal[1]] == goal[2] for goal in self.goals)

    def has_movers_placed(self, signs):
        """Return whether all goals of movers are met in a cell."""
        return all(are_nought(zeros, signs) for zeros in self.aims)


def whole_chart(scene, task):
    """Return the chart of a task, or raise TooGreat()."""
    chart = Chart(scene, task)
    refuse_too_great(chart.frame)
    return chart


def moves_in(known, mode, deeds):
    """Return the list of the tuples (deed, mode behind, place forms, room bars) of the deeds that fit a mode."""
    return [(n, behind, known.place_of_deed(n), known.bars_in_room(mode, n)) for n, behind in deeds]


def goal_forms(scene, goal):
    """Return the place forms of a goal of a mover, or None, and [] for a goal of a thing."""
    word, number, aim = goal
    return place_forms(scene, number, aim) if word == "mover" else []


def all_forms(bars, moves, aims):
    """Return the list of all forms of the bars and moves of modes, and of aims; there are none where None stands."""
    forms = [form for row in bars for form in forms_in(row)]
    for _, _, place, room in [move for row in moves for move in row]:
        forms.extend(forms_in(room))
        forms.extend(place or [])
    for aim in aims:
        forms.extend(aim or [])
    return forms


def in_form_numbers(frame, forms):
    """Return the list of the numbers of forms in a frame, or None for None."""
    return None if forms is None else [frame[1].index(form) for form in forms]


def are_nought(zeros, signs):
    """Return whether forms, by their numbers, are 0 in a row of signs; None is told where they cannot be."""
    return zeros is not None and all(signs[n] == 0 for n in zeros)
