"""The most routes through nodes no two of which share a node, and the fewest nodes that stop all routes.

Nodes are numbers from 0 on; sets of nodes are integers with a bit for each.
"""


def numbers_in(nodes):
    """Return the list of the numbers in a set of nodes, ascending."""
    numbers = []
    while nodes != 0:
        lowest = nodes & -nodes
        numbers.append(lowest.bit_length() - 1)
        nodes = nodes ^ lowest
    return numbers


class Routes:
    """Routes through a field, an object that has the nodes.

    Its method `starts` returns the set of the nodes at which routes may begin, `ahead_of` that of the nodes to which
    they may go on from a node, and `is_end` whether they may end at a node.

    There are the most routes if no search for one more succeeds. A search goes from the back of a node to the fronts
    of others. From the front of a node without a route it goes on to its back; from that of a node with one, only to
    the back of the node before it, whose route may then take another turn; and from the back of a node with a route
    also to its front, so that the node leaves its route.
    """

    def __init__(self, field):
        self._field = field
        # For each node with a route the node before it, None for the first one; and the last nodes.
        self._before = {}
        self._last = []
        # The sets of the nodes whose fronts and backs were not visited in this round.
        self._fronts = 0
        self._backs = 0
        while self._has_grown():
            pass

    def all_routes(self):
        """Return the list of the routes, lists of nodes."""
        routes = []
        for node in self._last:
            route = []
            while node is not None:
                route.append(node)
                node = self._before[node]
            routes.append(route[::-1])
        return routes

    def stops(self):
        """Return the list of the fewest nodes that stop all routes, one of each route."""
        # The last round has visited all that is reached in front of these.
        return numbers_in(~self._fronts & self._backs)

    def _has_grown(self):
        """Search for more routes, visiting everything once at most, and return whether there were some."""
        self._fronts = -1
        self._backs = -1
        count = len(self._last)
        while self._search():
            pass
        return len(self._last) > count

    def _search(self):
        """Search for one more route, and return whether there is one."""
        trail = [(None, True)]
        while trail:
            node, is_back = trail[-1]
            if is_back and node is not None and self._field.is_end(node):
                self._add_route(trail)
                return True
            ahead = self._step_from_back(node) if is_back else self._step_from_front(node)
            if ahead is None:
                trail.pop()
            else:
                trail.append(ahead)
        return False

    def _step_from_back(self, node):
        """Visit a front to which the search goes from the back of a node, or from the beginning, and return it."""
        ahead = self._field.starts() if node is None else self._field.ahead_of(node)
        if node in self._before:
            ahead = ahead | (1 << node)
        ahead = ahead & self._fronts
        if ahead == 0:
            return None
        lowest = ahead & -ahead
        self._fronts = self._fronts ^ lowest
        return (lowest.bit_length() - 1, False)

    def _step_from_front(self, node):
        """Visit the back to which the search goes from the front of a node and return it."""
        other = self._before.get(node, node)
        if other is None or self._backs & (1 << other) == 0:
            return None
        self._backs = self._backs ^ (1 << other)
        return (other, True)

    def _add_route(self, trail):
        """Add a route along the trail of a search."""
        for at, (node, is_back) in enumerate(trail[1:], start=1):
            if not is_back and trail[at - 1][0] == node:
                del self._before[node]
            elif not is_back:
                self._before[node] = trail[at - 1][0]
        self._last.append(trail[-1][0])
