"""Charts of tasks: all modes, the frame, and what can be done in each mode, told by numbers of modes and of forms.

A node is told by a pair (k, signs) here, k being the number of a mode.
"""

from sweptfree.bars import forms_in, place_forms
from sweptfree.cells import cofaces, faces
from sweptfree.frames import frame_of, refuse_too_great
from sweptfree.known import Known
from sweptfree.rooms import contacts_in_numbers, is_free
from sweptfree.tasks import modes_and_deeds


class Chart:
    """The chart of a task; its moves are, for each mode, tuples (deed, mode behind, place forms, room bars).

    Place forms are None where a mover can never stand. What a mode has in numbers is worked out when it is asked for.
    """

    def __init__(self, scene, task):
        self.start, first, self.goals = task
        rows = modes_and_deeds(scene, first)
        self.modes = [mode for mode, _ in rows]
        self.mode_numbers = {mode: k for k, mode in enumerate(self.modes)}
        self.first = self.mode_numbers[first]
        known = Known(scene)
        self.bars = [known.bars_in(mode) for mode in self.modes]
        self.moves = [moves_in(known, mode, deeds) for mode, deeds in rows]
        self.aims = [goal_forms(scene, goal) for goal in self.goals]
        self.frame = frame_of(scene[0], all_forms(self.bars, self.moves, self.aims))
        self.form_numbers = {form: n for n, form in enumerate(self.frame[1])}
        self.told_bars = {}
        self.told_moves = {}

    def bars_in_numbers(self, k):
        """Return the bars of the mode with a number, each a list of pairs (number of a form, side)."""
        if k not in self.told_bars:
            self.told_bars[k] = contacts_in_numbers(self.form_numbers, self.bars[k])
        return self.told_bars[k]

    def moves_in_numbers(self, k):
        """Return the moves of the mode with a number in numbers, those left out whose mover can never stand there."""
        if k not in self.told_moves:
            self.told_moves[k] = [
                (n, self.mode_numbers[behind], [self.form_numbers[form] for form in place],
                 contacts_in_numbers(self.form_numbers, room))
                for n, behind, place, room in self.moves[k] if place is not None]
        return self.told_moves[k]

    def is_node(self, k, signs):
        """Return whether a cell is free in the mode with a number."""
        return is_free(self.bars_in_numbers(k), signs)

    def deeds_from(self, k, signs):
        """Return the list of the pairs (deed, number of the mode behind) of what can be done at a node."""
        found = []
        for n, behind, zeros, room in self.moves_in_numbers(k):
            if are_nought(zeros, signs) and self.is_node(behind, signs) and is_free(room, signs):
                found.append((n, behind))
        return found

    def next_to(self, k, signs):
        """Return the ascending list of the nodes to which one move leads from a node, each once."""
        cells = faces(self.frame, signs) + cofaces(self.frame, signs)
        nodes = [(k, cell) for cell in cells if self.is_node(k, cell)]
        nodes.extend([(behind, signs) for _, behind in self.deeds_from(k, signs)])
        return sorted(set(nodes))

    def is_goal(self, k, signs):
        """Return whether all goals are met at a node."""
        return self.has_things_laid(k) and self.has_movers_placed(signs)

    def has_things_laid(self, k):
        """Return whether all goals of things are met in the mode with a number."""
        lies = self.modes[k][0]
        return all(goal[0] != "thing" or lies[goal[1]] == goal[2] for goal in self.goals)

    def has_movers_placed(self, signs):
        """Return whether all goals of movers are met in a cell."""
        for forms in self.aims:
            if forms is None or not are_nought([self.form_numbers[form] for form in forms], signs):
                return False
        return True


def whole_chart(scene, task):
    """Return the chart of a task, or raise TooGreat()."""
    chart = Chart(scene, task)
    refuse_too_great(chart.frame)
    return chart


def moves_in(known, mode, deeds):
    """Return the list of the tuples (deed, mode behind, place forms, room bars) of the deeds that fit a mode."""
    return [(n, behind, known.place_of_deed(n), known.bars_in_room(mode, n)) for n, behind in deeds]


def goal_forms(scene, goal):
    """Return the place forms of a goal of a mover, or None, and [] for a goal of a thing."""
    word, number, aim = goal
    return place_forms(scene, number, aim) if word == "mover" else []


def all_forms(bars, moves, aims):
    """Return the list of all forms of the bars and moves of modes, and of aims; there are none where None stands."""
    forms = [form for row in bars for form in forms_in(row)]
    for _, _, place, room in [move for row in moves for move in row]:
        forms.extend(forms_in(room))
        forms.extend(place or [])
    for aim in aims:
        forms.extend(aim or [])
    return forms


def are_nought(zeros, signs):
    """Return whether forms, by their numbers, are 0 in a row of signs."""
    return all(signs[n] == 0 for n in zeros)
