"""Prices of plans, least prices of tasks, and papers that show that nothing is cheaper."""

from sweptfree.mazes import Maze, Search, equal_prices, own_prices
from sweptfree.plans import is_node_told, rows_fault
from sweptfree.trees import is_number


def plan_price(scene, plan):
    """Return the price of a plan, right or not."""
    return sum([scene[5][aim][-1] for word, aim in plan if word == "deed"])


def least_price(scene, task):
    """Return the least price of a task, or None, or raise TooGreat()."""
    return Search(Maze(scene, task), own_prices(scene), True).least_price()


def least_deeds(scene, task):
    """Return the least number of deeds of a task, or None, or raise TooGreat()."""
    return Search(Maze(scene, task), equal_prices(scene, 1), True).least_price()


def price_without(scene, task, number):
    """Return the least price of those right plans in which a deed is never done, or None, or raise TooGreat()."""
    prices = [None if n == number else price for n, price in enumerate(own_prices(scene))]
    return Search(Maze(scene, task), prices, True).least_price()


def cheapest_plan(scene, task):
    """Return a right plan with the least price, or None, or raise TooGreat()."""
    search = Search(Maze(scene, task), own_prices(scene), True)
    return None if search.goal is None else search.plan()


def price_paper(scene, task, n):
    """Return a price paper of a task against n, or None if there is none, or raise TooGreat()."""
    search = Search(Maze(scene, task), own_prices(scene), False)
    if search.goal is not None and search.least_price() < n:
        return None
    return tuple([search.maze.node(node) + (search.found[node],) for node in sorted(search.found)])


def judge_price_paper(scene, task, n, value):
    """Return None if value, which may be anything, is a price paper against n, and otherwise its first fault."""
    maze = Maze(scene, task)
    if not isinstance(value, tuple) or not all(is_triple(scene, maze.chart, part) for part in value):
        return ("form",)
    rows = [(maze.chart.mode_numbers[mode], signs) for mode, signs, _ in value]
    fault = rows_fault(maze, rows)
    if fault is not None:
        return fault
    told = {maze.number_of(k, signs): part[2] for (k, signs), part in zip(rows, value)}
    if maze.start not in told or told[maze.start] != 0:
        return ("start",)
    prices = own_prices(scene)
    for k, node in enumerate(told):
        if not are_moves_told(maze, prices, told, node):
            return ("move", k)
    for k, node in enumerate(told):
        if told[node] < n and maze.is_goal(node):
            return ("goal", k)
    return None


def is_triple(scene, chart, value):
    """Return whether value, which may be anything, is a mode of a task, a row of signs of its frame, and a number."""
    if not isinstance(value, tuple) or len(value) != 3:
        return False
    return is_node_told(scene, chart, value[:2]) and is_number(value[2])


def are_moves_told(maze, prices, told, node):
    """Return whether each move from a node leads to one that is told, with a number that is small enough."""
    for other, deed in maze.moves_from(node):
        price = 0 if deed is None else prices[deed]
        if other not in told or told[other] > told[node] + price:
            return False
    return True
