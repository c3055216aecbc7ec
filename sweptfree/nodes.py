"""Frames of tasks, nodes of positions, and which nodes are next to one."""

from sweptfree.charts import Chart, whole_chart
from sweptfree.frames import signs_at


def task_frame(scene, task):
    """Return the frame of a task, or raise TooGreat() if it has too many modes."""
    return Chart(scene, task).frame


def node_of(scene, task, mode, standing):
    """Return the node that a position has, or raise TooGreat() as task_frame does."""
    return (mode, signs_at(task_frame(scene, task), standing))


def next_nodes(scene, task, node):
    """Return the ascending list of the nodes that are next to a node, each once, or raise TooGreat()."""
    chart = whole_chart(scene, task)
    mode, signs = node
    return [(chart.modes[k], cell) for k, cell in chart.next_to(chart.mode_numbers[mode], signs)]


def is_goal_node(scene, task, node):
    """Return whether all goals are met at a node, or raise TooGreat()."""
    chart = whole_chart(scene, task)
    mode, signs = node
    return chart.is_goal(chart.mode_numbers[mode], signs)
