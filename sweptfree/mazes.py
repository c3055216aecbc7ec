"""Mazes: all nodes of a task, and the search for those to which one comes from the start's.

A node has one number here: that of its mode times how many cells there are, and that of its cell.
"""

from heapq import heappop, heappush

from sweptfree.bodies import all_bodies, bodies_beside
from sweptfree.cells import point_in
from sweptfree.charts import whole_chart
from sweptfree.frames import signs_at


class Maze:
    """All nodes of a task, or TooGreat() is raised."""

    def __init__(self, scene, task):
        self.chart = whole_chart(scene, task)
        joined = bodies_beside(all_bodies(self.chart.frame))
        self.cells = list(joined)
        self.cell_numbers = {cell: n for n, cell in enumerate(self.cells)}
        self.beside = [[self.cell_numbers[other] for other in joined[cell]] for cell in self.cells]
        self.start = self.number_of(self.chart.first, signs_at(self.chart.frame, self.chart.start))
        self.free = {}

    def number_of(self, k, signs):
        """Return the number of the node with a mode's number and a cell."""
        return k * len(self.cells) + self.cell_numbers[signs]

    def node(self, number):
        """Return the node with a number as a pair of a mode and a cell."""
        k, n = divmod(number, len(self.cells))
        return (self.chart.modes[k], self.cells[n])

    def is_free(self, k, n):
        """Return whether the cell with a number is free in the mode with a number."""
        key = k * len(self.cells) + n
        if key not in self.free:
            self.free[key] = self.chart.is_node(k, self.cells[n])
        return self.free[key]

    def moves_from(self, number):
        """Return the list of the pairs (node, deed) of the moves from a node, the deed being None between cells."""
        k, n = divmod(number, len(self.cells))
        ahead = number - n
        moves = [(ahead + other, None) for other in self.beside[n] if self.is_free(k, other)]
        for deed, behind in self.chart.deeds_from(k, self.cells[n]):
            moves.append((behind * len(self.cells) + n, deed))
        return moves

    def is_goal(self, number):
        """Return whether a node is a goal node."""
        k, n = divmod(number, len(self.cells))
        return self.chart.is_goal(k, self.cells[n])


class Search:
    """The least prices of all nodes to which one comes, or of those up to the first goal node that is found.

    prices tells the price of each deed, None for one that is never done. Of rows of moves with the least price those
    with the fewest moves count. found has for each node its price; ahead has the node ahead of it, and the deed.
    """

    def __init__(self, maze, prices, stops):
        self.maze = maze
        self.prices = prices
        self.found = {}
        self.ahead = {}
        self.goal = None
        self.best = {maze.start: (0, 0)}
        self.queue = [(0, 0, maze.start)]
        while self.queue and (self.goal is None or not stops):
            price, steps, node = heappop(self.queue)
            if node not in self.found:
                self.found[node] = price
                if self.goal is None and maze.is_goal(node):
                    self.goal = node
                self.step_from(price, steps, node)

    def step_from(self, price, steps, node):
        """Put all nodes to which a move leads from a node into the queue, if it is the best way to them so far."""
        for other, deed in self.maze.moves_from(node):
            more = 0 if deed is None else self.prices[deed]
            if more is not None and other not in self.found:
                told = (price + more, steps + 1)
                if other not in self.best or told < self.best[other]:
                    self.best[other] = told
                    self.ahead[other] = (node, deed)
                    heappush(self.queue, (told[0], told[1], other))

    def least_price(self):
        """Return the price of the goal node that is found, or None."""
        return None if self.goal is None else self.found[self.goal]

    def plan(self):
        """Return a right plan that leads to the goal node that is found."""
        steps = []
        node = self.goal
        while node != self.maze.start:
            before, deed = self.ahead[node]
            steps.append(self.step_to(node) if deed is None else ("deed", deed))
            node = before
        steps.reverse()
        return tuple(steps)

    def step_to(self, node):
        """Return the step that leads straight to a standing of a node from one in a cell beside it."""
        return ("go", point_in(self.maze.chart.frame, self.maze.node(node)[1]))


def own_prices(scene):
    """Return the list of the prices of a scene's deeds."""
    return [deed[-1] for deed in scene[5]]


def equal_prices(scene, price):
    """Return the list of one price for each of a scene's deeds."""
    return [price for _ in scene[5]]
