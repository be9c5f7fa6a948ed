"""The most routes that share no node, and the fewest nodes that stop all of them (labelgrid.routes)."""

import itertools
import unittest

from labelgrid.routes import Routes, numbers_in
from tests.helpers import source_of


class Field:
    """Nodes with those behind them, those where routes begin, and those where they end."""

    def __init__(self, first, ahead, ends):
        self.first = first
        self.ahead = ahead
        self.ends = ends

    def starts(self):
        return sum(1 << node for node in self.first)

    def ahead_of(self, node):
        return sum(1 << other for other in self.ahead[node])

    def is_end(self, node):
        return node in self.ends

    def is_route(self, route):
        steps = all(there in self.ahead[here] for here, there in zip(route, route[1:]))
        return steps and route[0] in self.first and route[-1] in self.ends

    def is_stopped_by(self, stops):
        found, waiting = set(), [node for node in self.first]
        while waiting:
            node = waiting.pop()
            if node not in found and node not in stops:
                found.add(node)
                waiting.extend(self.ahead[node])
        return not found & set(self.ends)


class RoutesTest(unittest.TestCase):
    def check(self, field, count):
        routes = Routes(field)
        found, stops = routes.all_routes(), routes.stops()
        self.assertEqual((len(found), len(stops)), (count, count))
        self.assertTrue(all(field.is_route(route) for route in found))
        nodes = [node for route in found for node in route]
        self.assertEqual(len(nodes), len(set(nodes)))
        self.assertTrue(field.is_stopped_by(stops))
        self.assertEqual(stops, sorted(set(stops)))

    def test_numbers(self):
        self.assertEqual((numbers_in(0), numbers_in(1), numbers_in(0b101100)), ([], [0], [2, 3, 5]))

    def test_few_nodes(self):
        self.check(Field([], [], []), 0)
        self.check(Field([0], [[]], []), 0)
        self.check(Field([0], [[]], [0]), 1)
        self.check(Field([0], [[0]], [0]), 1)
        self.check(Field([0, 1, 2], [[3], [3], [3], []], [3]), 1)
        self.check(Field([0], [[1, 2, 3], [], [], []], [1, 2, 3]), 1)
        self.check(Field([0, 1], [[2], [3], [], []], [2, 3]), 2)
        self.check(Field([0, 1], [[1], [0]], [0, 1]), 2)

    def test_a_route_that_takes_another_turn(self):
        # The first route takes 2 or 3 so that the second one has none left.
        self.check(Field([0, 1], [[2, 3], [2], [], []], [2, 3]), 2)
        self.check(Field([0, 1], [[3, 2], [3], [], []], [2, 3]), 2)
        self.check(Field([0, 4], [[1], [2], [3], [], [2, 5], [3]], [3]), 1)
        # The route 0 1 4 5 gives 1 and 4 to two others.
        self.check(Field([0, 2], [[1], [4, 3], [4], [], [5], []], [3, 5]), 2)

    def test_made_up_fields(self):
        source = source_of(71)
        counts = {}
        for _ in range(400):
            size = source.randrange(1, 9)
            ahead = [[other for other in range(size) if source.random() < 0.25] for _ in range(size)]
            first = [node for node in range(size) if source.random() < 0.4]
            field = Field(first, ahead, [node for node in range(size) if source.random() < 0.4])
            fewest = next(count for count in range(size + 1)
                          if any(field.is_stopped_by(stops) for stops in itertools.combinations(range(size), count)))
            self.check(field, fewest)
            counts[fewest] = True
        self.assertTrue({0, 1, 2, 3, 4} <= set(counts))

    def test_layers(self):
        size = 40
        ahead = [[node + size, node - node % size + size + (node + 1) % size] for node in range(size * 9)]
        ahead += [[] for _ in range(size)]
        self.check(Field(list(range(size)), ahead, list(range(size * 9, size * 10))), size)
        self.check(Field(list(range(size)), ahead, list(range(size * 9, size * 9 + 7))), 7)


if __name__ == "__main__":
    unittest.main()
