"""Openings: the fewest calls that would have to be released so that a user sees an address."""

from labelgrid.addresses import inside
from labelgrid.cellsets import bit_of, cells_in, first_in, has_cell, mask_of, mask_of_all, mask_of_cells
from labelgrid.circles import Search
from labelgrid.graph import Graph
from labelgrid.hiding import Hiding
from labelgrid.paths import first_path, spread
from labelgrid.routes import Routes


class Maze:
    """What lies between an address and what a user may not read: calls, and uses by themselves."""

    def __init__(self, book, user, address):
        hiding = Hiding(book)
        self._start = (address, address)
        self._closed = hiding.closed_set(user)
        # The triples of address, node and range of the calls that step ways may have, and for each address with
        # calls the set of their numbers in this list.
        self._calls = []
        self._numbers = {}
        # What formulas use by themselves, and for each of them the set of itself and all that it reaches so.
        self._graph = Graph()
        self._reached = {}
        # Step ways end at the first address that the user may not read.
        for cell in cells_in(hiding.set_below(user, address) & hiding.formula_set() & ~self._closed):
            self._add(cell, hiding.hidden_pairs(user, cell))
        self._calling = mask_of_cells(self._numbers)
        for cells in Search(self._graph).run():
            self._close(mask_of_cells(cells))
        # For ranges the set of what is reached by no call, and the set of the numbers of the calls there.
        self._behind = {}
        self._ahead = {}

    def is_open(self):
        """Return whether the address is hidden by no step way without calls."""
        return self._set_behind(self._start) & self._closed == 0

    def starts(self):
        """Return the set of the numbers of the calls that are reached from the address by no other call."""
        return self._numbers_behind(self._start)

    def ahead_of(self, number):
        """Return the set of the numbers of the calls that are reached from the range of a call by no other call."""
        return self._numbers_behind(self._calls[number][2])

    def is_end(self, number):
        """Return whether what the user may not read is reached from the range of a call by no other call."""
        return self._set_behind(self._calls[number][2]) & self._closed != 0

    def call(self, number):
        """Return the pair of the address and the node of a call."""
        cell, node, _ = self._calls[number]
        return (cell, node)

    def step_way(self, route):
        """Return a step way with the calls of a route."""
        way = []
        area = self._start
        for number in route:
            cell, node, ahead = self._calls[number]
            way.extend([(step, None) for step in self._steps_between(area, bit_of(cell))[:-1]])
            way.append((cell, node))
            area = ahead
        way.extend([(step, None) for step in self._steps_between(area, self._closed)])
        return way

    def _add(self, cell, pairs):
        """Note the uses of a formula, pairs of a range and a node."""
        self._graph.put(cell, [area for area, node in pairs if node is None])
        for area, node in pairs:
            if node is not None:
                self._numbers[cell] = self._numbers.get(cell, 0) | (1 << len(self._calls))
                self._calls.append((cell, node, area))

    def _close(self, cells):
        """Note what formulas reach that reach each other, when this is known of the others that they use."""
        used = cells
        for cell in cells_in(cells):
            used = used | self._graph.used_cells(cell)
        reached = cells | self._with_reached(used & ~cells)
        for cell in cells_in(cells):
            self._reached[cell] = reached

    def _with_reached(self, cells):
        """Return a set with all that is reached from it by no call."""
        waiting = cells & self._graph.formula_set()
        while waiting != 0:
            reached = self._reached[first_in(waiting)]
            cells = cells | reached
            waiting = waiting & ~reached
        return cells

    def _set_behind(self, area):
        """Return the set of what is reached from a range by no call."""
        if area not in self._behind:
            self._behind[area] = self._with_reached(mask_of(area))
        return self._behind[area]

    def _numbers_behind(self, area):
        """Return the set of the numbers of the calls that are reached from a range by no other call."""
        if area not in self._ahead:
            numbers = 0
            for cell in cells_in(self._set_behind(area) & self._calling):
                numbers = numbers | self._numbers[cell]
            self._ahead[area] = numbers
        return self._ahead[area]

    def _steps_between(self, area, goal):
        """Return the addresses of a shortest path from a range to a set by no call."""
        return first_path(mask_of(area), goal, self._graph.formula_set(), lambda cell: self._graph.used_cells(cell))


def opening(book, user, address):
    """Return the pair of the fewest calls that are enough and as many step ways, or None if none are enough."""
    maze = Maze(book, user, address)
    if not maze.is_open():
        return None
    routes = Routes(maze)
    # Calls are numbered by addresses row by row, but at one address in the order of its formula, so by nodes.
    calls = [maze.call(number) for number in routes.stops()]
    return calls, [maze.step_way(route) for route in routes.all_routes()]


def seen_if(book, user, address, calls):
    """Return whether a user would see an address if some calls, pairs of an address and a node, were released."""
    hiding = Hiding(book)
    released = {call: True for call in calls}

    def used_still(cell):
        pairs = hiding.hidden_pairs(user, cell)
        return mask_of_all([area for area, node in pairs if (cell, node) not in released])

    return spread(bit_of(address), hiding.formula_set(), used_still) & hiding.closed_set(user) == 0


def opening_right(book, user, address, calls, ways):
    """Return whether calls and ways are accepted as an opening."""
    if len(ways) != len(calls) or not seen_if(book, user, address, calls):
        return False
    hiding = Hiding(book)
    if not all([_is_step_way(hiding, user, address, way) for way in ways]):
        return False
    passed = [pair for way in ways for pair in way if pair[1] is not None]
    return len(set(passed)) == len(passed)


def _is_step_way(hiding, user, address, way):
    """Return whether a list of pairs of an address and a node or None is a step way."""
    if not way or way[0][0] != address or way[-1][1] is not None:
        return False
    closed = hiding.closed_set(user)
    for (here, node), (there, _) in zip(way, way[1:]):
        ranges = [area for area, other in hiding.hidden_pairs(user, here) if other == node]
        if has_cell(closed, here) or not any([inside(there, area) for area in ranges]):
            return False
    return has_cell(closed, way[-1][0])
