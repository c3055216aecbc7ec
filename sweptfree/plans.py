"""Plans, and papers that there is none: telling them, and judging what should be one."""

from sweptfree.frames import is_row_of_signs
from sweptfree.known import Known
from sweptfree.legs import leg_fault
from sweptfree.mazes import Maze, Search, equal_prices
from sweptfree.scenes import is_mode, is_standing
from sweptfree.tasks import deed_word, is_number_of, mode_behind, unmet


def plan(scene, task):
    """Return ("plan", steps) with a right plan, or ("none", nodes) with a paper of none, or raise TooGreat()."""
    return plan_or_paper(scene, task)


def plan_or_paper(scene, task):
    """Look for a right plan of a task: of those with a step for each move one with the fewest steps."""
    search = Search(Maze(scene, task), equal_prices(scene, 0), True)
    if search.goal is not None:
        return ("plan", search.plan())
    return ("none", tuple([search.maze.node(node) for node in sorted(search.found)]))


def judge_plan(scene, task, value):
    """Return None if value, which may be anything, is a right plan, and otherwise its first fault."""
    if not isinstance(value, tuple) or not all(is_step(scene, step) for step in value):
        return ("form",)
    standing, mode, goals = task
    known = Known(scene)
    for n, (word, aim) in enumerate(value):
        if word == "go":
            if leg_fault(scene[0], known.bars_in(mode), standing, aim) is not None:
                return ("go", n)
            standing = aim
        else:
            why = deed_word(scene, mode, standing, aim)
            if why is not None:
                return ("deed", n, why)
            mode = mode_behind(scene, mode, aim)
    left = unmet(scene, goals, mode, standing)
    return ("goal", left[0]) if left else None


def is_step(scene, value):
    """Return whether value, which may be anything, is a step with a standing, or the number of a deed, of a scene."""
    if not isinstance(value, tuple) or len(value) != 2:
        return False
    if value[0] == "go":
        return is_standing(scene, value[1])
    return value[0] == "deed" and is_number_of(scene[5], value[1])


def judge_none(scene, task, value):
    """Return None if value, which may be anything, is a paper of none, and otherwise its first fault."""
    maze = Maze(scene, task)
    if not isinstance(value, tuple) or not all(is_node_told(scene, maze.chart, part) for part in value):
        return ("form",)
    rows = [(maze.chart.mode_numbers[mode], signs) for mode, signs in value]
    fault = rows_fault(maze, rows)
    if fault is not None:
        return fault
    nodes = {maze.number_of(k, signs): True for k, signs in rows}
    if maze.start not in nodes:
        return ("start",)
    for n, node in enumerate(nodes):
        if maze.is_goal(node):
            return ("goal", n)
    for n, node in enumerate(nodes):
        left = [other for other, _ in maze.moves_from(node) if other not in nodes]
        if left:
            return ("open", n, maze.node(min(left)))
    return None


def is_node_told(scene, chart, value):
    """Return whether value, which may be anything, is a pair of a mode of a task and a row of signs of its frame."""
    if not isinstance(value, tuple) or len(value) != 2:
        return False
    mode, signs = value
    return is_mode(scene, mode) and mode in chart.mode_numbers and is_row_of_signs(chart.frame, signs)


def rows_fault(maze, rows):
    """Return the fault of the first pair (number of a mode, signs) that does not ascend, or is no node, or None."""
    for n in range(1, len(rows)):
        if rows[n] <= rows[n - 1]:
            return ("order", n)
    for n, (k, signs) in enumerate(rows):
        if signs not in maze.cell_numbers or not maze.is_free(k, maze.cell_numbers[signs]):
            return ("node", n)
    return None
