"""Points 42 and 43."""

import unittest

from labelgrid.addresses import SHEET, cells_of
from labelgrid.circles import circle_of, circle_right, circular, components, work_order
from labelgrid.graph import Graph
from tests import spelled
from tests.helpers import random_range, source_of
from tests.spelled import row_by_row

A1, B1, C1, D1, A2, B2, C2, D2, A3 = (0, 0), (1, 0), (2, 0), (3, 0), (0, 1), (1, 1), (2, 1), (3, 1), (0, 2)


def graph_with(table):
    """A graph in which each formula cell uses the addresses of a list."""
    graph = Graph()
    for address in table:
        graph.put(address, [(cell, cell) for cell in table[address]])
    return graph


def random_table(source, size):
    cells = cells_of(((0, 0), (size - 1, size - 1)))
    return {cell: [other for other in cells if source.random() < 1.3 / len(cells)] for cell in cells if source.random() < 0.8}


def shortest(edges, cell):
    """The number of the cells of the shortest circle through a cell, or None."""
    layer, seen, length = {cell}, set(), 0
    while layer:
        length += 1
        layer = {other for one in layer for other in edges.get(one, ())} - seen
        if cell in layer:
            return length
        seen |= layer
    return None


class CircularTest(unittest.TestCase):
    def check(self, table, cells):
        graph = graph_with(table)
        self.assertEqual(circular(graph), cells)

    def test_none(self):
        self.check({}, [])
        self.check({A1: [B1], B1: [C1], A2: []}, [])

    def test_a_cell_that_uses_itself(self):
        self.check({A1: [A1], B1: [C1]}, [A1])

    def test_circles_and_cells_that_reach_them(self):
        self.check({A1: [B1], B1: [A1]}, [A1, B1])
        self.check({A1: [B1], B1: [C1], C1: [B1, D1], D1: [A3], A2: [A1], B2: [D1]}, [A1, B1, C1, A2])
        self.check({A3: [C2], C2: [A2, D2], A2: [C2], D2: [], B2: [D2]}, [A2, C2, A3])

    def test_what_is_used_but_no_formula_cell(self):
        self.check({A1: [B1], C1: [B1]}, [])

    def test_example(self):
        graph = Graph()
        for address, ranges in [(A1, [(A2, B2)]), (A2, [(B1, B1)]), (B2, [(A1, A1)])]:
            graph.put(address, ranges)
        self.assertEqual((circular(graph), circle_of(graph, A1), work_order(graph, [A2])), ([A1, B2], [A1, B2], [A2]))

    def test_whole_sheet(self):
        graph = Graph()
        for cell in cells_of(SHEET):
            graph.put(cell, [SHEET])
        self.assertEqual(circular(graph), cells_of(SHEET))
        self.assertEqual(components(graph), [cells_of(SHEET)])


class ComponentsTest(unittest.TestCase):
    def check(self, table, wanted):
        self.assertEqual(components(graph_with(table)), wanted)

    def test_single_ones(self):
        self.check({}, [])
        self.check({A3: [A1], B1: [B1], A1: [], A2: [A3]}, [[A1], [B1], [A2], [A3]])

    def test_cells_that_reach_each_other(self):
        self.check({A1: [B1], B1: [A1]}, [[A1, B1]])
        self.check({A3: [B1], B1: [A2], A2: [A3], C1: [A3]}, [[B1, A2, A3], [C1]])
        self.check({A1: [D2], D2: [A1], B1: [C1], C1: [B1, A1]}, [[A1, D2], [B1, C1]])

    def test_circles_that_share_cells(self):
        self.check({A1: [B1], B1: [A1, C1], C1: [B1], D1: [A1]}, [[A1, B1, C1], [D1]])
        self.check({A1: [B1], B1: [C1], C1: [D1, A1], D1: [C1, A2], A2: [B1], B2: [A2], C2: []}, [[A1, B1, C1, D1, A2], [B2], [C2]])

    def test_against_the_words_of_the_document(self):
        source = source_of(43)
        for _ in range(200):
            table = random_table(source, source.randrange(1, 5))
            edges = {cell: set(table[cell]) for cell in table}
            found = components(graph_with(table))
            behind = {cell: spelled.reached(edges, cell) for cell in edges}
            self.assertEqual([part[0] for part in found], row_by_row([part[0] for part in found]))
            self.assertEqual(row_by_row([cell for part in found for cell in part]), row_by_row(edges))
            for part in found:
                self.assertEqual(part, row_by_row([cell for cell in edges if cell == part[0]
                                                   or cell in behind[part[0]] and part[0] in behind[cell]]))

    def test_a_long_circle(self):
        cells = cells_of(SHEET)
        table = {cell: [cells[index - 1]] for index, cell in enumerate(cells)}
        self.assertEqual(components(graph_with(table)), [cells])
        self.assertEqual(circle_of(graph_with(table), A1), cells[:1] + cells[:0:-1])
        del table[cells[7]]
        self.assertEqual(components(graph_with(table)), [[cell] for cell in row_by_row(table)])


class CircleTest(unittest.TestCase):
    def check(self, table, cell, circle):
        graph = graph_with(table)
        self.assertEqual(circle_of(graph, cell), circle)
        if circle is not None:
            self.assertTrue(circle_right(graph, circle))

    def test_shortest_circles(self):
        self.check({A1: [A1, B1], B1: [A1]}, A1, [A1])
        self.check({A1: [A1, B1], B1: [A1]}, B1, [B1, A1])
        self.check({A1: [B1, A2], B1: [C1], C1: [A1], A2: [A1]}, A1, [A1, A2])
        self.check({A1: [B1, A2], B1: [C1], C1: [A1], A2: [A1]}, C1, [C1, A1, B1])

    def test_none(self):
        table = {A1: [B1], B1: [C1], C1: [B1], D1: []}
        self.check(table, A1, None)
        self.check(table, D1, None)
        self.check(table, B1, [B1, C1])

    def test_the_first_one_row_by_row_where_there_is_a_choice(self):
        self.check({A1: [A2, D1, B2], A2: [A1], D1: [A1], B2: [A1]}, A1, [A1, D1])
        self.check({A1: [A2, B2], A2: [D1, A3], B2: [B1], D1: [A1], A3: [A1], B1: [A1]}, A1, [A1, A2, D1])
        # The first address decides, although the second one leads the other way.
        self.check({A1: [B1, C1], B1: [D2], C1: [D1], D1: [A1], D2: [A1]}, A1, [A1, B1, D2])

    def test_against_the_words_of_the_document(self):
        source = source_of(42)
        for _ in range(200):
            table = random_table(source, source.randrange(1, 5))
            edges = {cell: set(table[cell]) for cell in table}
            graph = graph_with(table)
            self.assertEqual(circular(graph), row_by_row(spelled.circular_cells(edges)))
            for cell in table:
                circle = circle_of(graph, cell)
                self.assertEqual(circle and len(circle), shortest(edges, cell))
                if circle is not None:
                    self.assertEqual((circle[0], circle_right(graph, circle)), (cell, True))

    def test_lists_that_are_circles(self):
        graph = graph_with({A1: [A1, B1], B1: [C1], C1: [A1, B1]})
        for circle in [[A1], [A1, B1, C1], [C1, A1, B1], [B1, C1], [C1, B1]]:
            self.assertIs(circle_right(graph, circle), True)

    def test_lists_that_are_no_circles(self):
        graph = graph_with({A1: [A1, B1, D1], B1: [C1], C1: [A1, B1], A2: []})
        for circle in [[], [B1], [A1, B1], [B1, A1, C1], [A1, A1], [A1, B1, C1, A1, B1, C1], [B1, C1, B1, C1], [A2], [D1], [A1, D1],
                       [B1, C1, A2], [(25, 98)]]:
            self.assertIs(circle_right(graph, circle), False, circle)
        self.assertIs(circle_right(Graph(), [A1]), False)

    def test_nothing_is_modified(self):
        graph, circle = graph_with({A1: [B1], B1: [A1], C1: []}), [A1, B1]
        before = {cell: list(graph.ranges[cell]) for cell in graph.ranges}
        cells = [C1]
        circle_right(graph, circle), work_order(graph, cells), circular(graph), components(graph), circle_of(graph, A1)
        self.assertEqual((graph.ranges, circle, cells), (before, [A1, B1], [C1]))


class OrderTest(unittest.TestCase):
    def check(self, table, cells, order):
        self.assertEqual(work_order(graph_with(table), cells), order)

    def test_each_one_behind_those_that_it_uses(self):
        self.check({A1: [B1], B1: [C1], C1: []}, [A1, B1, C1], [C1, B1, A1])
        self.check({A1: [], B1: [A1], C1: [B1]}, [C1, B1, A1], [A1, B1, C1])

    def test_the_first_one_row_by_row_where_there_is_a_choice(self):
        self.check({A1: [], B1: [], A2: []}, [A2, B1, A1], [A1, B1, A2])
        self.check({A1: [A3], B1: [], A2: [B1], A3: [B1]}, [A1, B1, A2, A3], [B1, A2, A3, A1])
        # A1 is free as soon as C1 is done, in front of D1.
        self.check({A1: [C1], B1: [D1], C1: [], D1: []}, [A1, B1, C1, D1], [C1, A1, D1, B1])

    def test_only_the_cells_of_the_list_count(self):
        table = {A1: [B1], B1: [C1], C1: [], D1: [A1]}
        self.check(table, [A1, C1], [A1, C1])
        self.check(table, [A1, B1], [B1, A1])
        self.check(table, [D1, C1], [C1, D1])
        self.check(table, [], [])

    def test_beside_circles(self):
        self.check({A1: [A1], B1: [A2], A2: [C2], B2: [A1]}, [B1, A2], [A2, B1])

    def test_against_the_words_of_the_document(self):
        source = source_of(44)
        for _ in range(200):
            table = random_table(source, source.randrange(1, 5))
            edges = {cell: set(table[cell]) for cell in table}
            cells = [cell for cell in edges if cell not in spelled.circular_cells(edges) and source.random() < 0.8]
            source.shuffle(cells)
            self.check(table, cells, spelled.in_work_order(edges, cells))

    def test_great_ranges(self):
        source = source_of(45)
        for _ in range(40):
            graph, edges = Graph(), {}
            for cell in cells_of(((0, 0), (5, 5))):
                # Ranges below the own row lead to no circle.
                area = random_range(source, 6, 5 - cell[1]) if cell[1] < 5 else None
                ranges = [] if area is None else [((area[0][0], area[0][1] + cell[1] + 1), (area[1][0], area[1][1] + cell[1] + 1))]
                graph.put(cell, ranges)
                edges[cell] = {other for one in ranges for other in cells_of(one)}
            self.assertEqual(work_order(graph, list(edges)), spelled.in_work_order(edges, edges))


if __name__ == "__main__":
    unittest.main()
