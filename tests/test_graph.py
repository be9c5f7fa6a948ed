"""Point 41."""

import unittest

from labelgrid.addresses import SHEET, cells_of, parse_range
from labelgrid.graph import Graph
from tests import spelled
from tests.helpers import random_range, source_of
from tests.spelled import row_by_row

A1, B1, C1, A2, B2, C2, A3 = (0, 0), (1, 0), (2, 0), (0, 1), (1, 1), (2, 1), (0, 2)


def one(address):
    return (address, address)


def graph_with(table):
    graph = Graph()
    for address in table:
        graph.put(address, table[address])
    return graph


class GraphTest(unittest.TestCase):
    def test_empty(self):
        graph = Graph()
        self.assertEqual((graph.ranges, graph.formulas(), graph.users_of(SHEET), graph.reaching([SHEET])), ({}, [], [], []))
        self.assertEqual((graph.used_formulas(A1), graph.reached(A1), graph.uses(A1, A1)), ([], [], False))
        self.assertIsNone(graph.remove(A1))
        self.assertIsNone(graph.put(A1, []))
        self.assertEqual((graph.ranges, graph.formulas()), ({A1: []}, [A1]))

    def test_put_over_an_earlier_put(self):
        graph = graph_with({A1: [(B1, C2), one(A3)], B1: [one(A1)]})
        graph.put(A1, [one(C1)])
        self.assertEqual(graph.ranges, {A1: [one(C1)], B1: [one(A1)]})
        self.assertEqual([graph.uses(A1, cell) for cell in (B1, C1, C2, A3)], [False, True, False, False])
        self.assertEqual((graph.users_of(one(A3)), graph.users_of((B1, C2)), graph.reaching([one(B2)])), ([], [A1], []))
        graph.put(A1, [])
        self.assertEqual((graph.users_of(SHEET), graph.formulas()), ([B1], [A1, B1]))

    def test_remove(self):
        graph = graph_with({A1: [one(B1)], B1: [one(C1)], A2: [one(B1)]})
        graph.remove(C1)
        self.assertEqual(graph.formulas(), [A1, B1, A2])
        graph.remove(B1)
        graph.remove(B1)
        self.assertEqual((graph.formulas(), graph.ranges), ([A1, A2], {A1: [one(B1)], A2: [one(B1)]}))
        self.assertEqual((graph.reaching([one(C1)]), graph.users_of(one(B1)), graph.used_formulas(A1)), ([], [A1, A2], []))
        graph.put(B1, [one(C1)])
        self.assertEqual((graph.reaching([one(C1)]), graph.used_formulas(A1)), ([A1, B1, A2], [B1]))

    def test_uses_and_ranges_that_overlap(self):
        graph = graph_with({A1: [(B1, C2), (C1, C2), one(C2)], A3: [(A1, C2)]})
        self.assertEqual([graph.uses(A1, cell) for cell in (A1, B1, C1, A2, B2, C2)], [False, True, True, False, True, True])
        self.assertEqual([graph.uses(A3, cell) for cell in cells_of((A1, C2))], [True] * 6)
        self.assertEqual([graph.uses(B1, cell) for cell in (A1, B1)], [False, False])
        self.assertEqual((graph.users_of(one(C2)), graph.users_of(one(A1)), graph.users_of((A3, (2, 9)))), ([A1, A3], [A3], []))
        graph.remove(A3)
        self.assertEqual(graph.users_of(one(C2)), [A1])

    def test_users_in_the_columns_and_rows_of_a_range_but_not_in_it(self):
        graph = graph_with({(9, 9): [one(A1), one(C2)]})
        self.assertEqual((graph.users_of(one(C1)), graph.users_of(one(A2)), graph.users_of((B1, C1))), ([], [], []))
        self.assertEqual((graph.reaching([one(C1)]), graph.reaching([one(A2), one(C2)])), ([], [(9, 9)]))

    def test_reached_over_several_cells(self):
        graph = graph_with({A1: [one(B1)], B1: [one(C1)], C1: [one(A2)], B2: [one(C2)]})
        self.assertEqual((graph.reached(A1), graph.reached(B1), graph.reached(C1)), ([B1, C1], [C1], []))
        self.assertEqual((graph.reaching([one(A2)]), graph.reaching([one(C1)])), ([A1, B1, C1], [A1, B1]))
        self.assertEqual((graph.reaching([one(C2), one(B1)]), graph.reaching([])), ([A1, B2], []))
        self.assertEqual(graph.reached(C2), [])

    def test_reached_around_a_circle(self):
        graph = graph_with({A1: [one(B1)], B1: [one(C1)], C1: [one(B1)], A2: [one(A2)], B2: [one(A1)]})
        self.assertEqual([graph.reached(cell) for cell in (A1, B1, C1, A2, B2)], [[B1, C1], [B1, C1], [B1, C1], [A2], [A1, B1, C1]])
        self.assertEqual((graph.reaching([one(B1)]), graph.reaching([one(A1)]), graph.reaching([one(A2)])),
                         ([A1, B1, C1, B2], [B2], [A2]))

    def test_lists_are_row_by_row(self):
        cells = [A3, C2, A2, B1, A1]
        graph = graph_with({cell: [SHEET] for cell in cells})
        wanted = [A1, B1, A2, C2, A3]
        self.assertEqual([graph.formulas(), graph.users_of(one(B2)), graph.used_formulas(C2), graph.reaching([one(B2)]),
                          graph.reached(A1)], [wanted] * 5)

    def test_nothing_is_shared_or_modified(self):
        graph, ranges, areas = Graph(), [(A1, C2)], [one(B1)]
        graph.put(A3, ranges)
        ranges.append(SHEET)
        self.assertEqual((graph.ranges, graph.uses(A3, A3)), ({A3: [(A1, C2)]}, False))
        for found in (graph.formulas(), graph.users_of(SHEET), graph.reaching(areas)):
            found.append(A1)
        self.assertEqual((graph.formulas(), graph.users_of(SHEET), graph.reaching(areas), areas), ([A3], [A3], [A3], [one(B1)]))
        other = Graph()
        self.assertEqual((other.ranges, other.formulas()), ({}, []))

    def test_whole_sheet(self):
        graph = graph_with({cell: [SHEET] for cell in cells_of(SHEET)})
        self.assertEqual(graph.reaching([parse_range("M50:M50")]), cells_of(SHEET))
        self.assertEqual(graph.reached((25, 98)), cells_of(SHEET))
        graph.put(A1, [])
        self.assertEqual((len(graph.users_of(one(A1))), graph.reached(A1)), (2573, []))

    def test_long_chains(self):
        cells = cells_of(SHEET)
        graph = graph_with({cell: [one(cells[index + 1])] for index, cell in enumerate(cells[:-1])})
        self.assertEqual((graph.reaching([one(cells[-1])]), graph.reached(cells[0])), (cells[:-1], cells[1:-1]))

    def test_against_the_words_of_the_document(self):
        source = source_of(41)
        for _ in range(100):
            graph, ranges = Graph(), {}
            for _ in range(source.randrange(25)):
                cell = (source.randrange(4), source.randrange(4))
                if source.random() < 0.25:
                    graph.remove(cell)
                    ranges.pop(cell, None)
                else:
                    ranges[cell] = [random_range(source, 4, 4) if source.random() < 0.3 else one((source.randrange(4), source.randrange(4)))
                                    for _ in range(source.randrange(3))]
                    graph.put(cell, ranges[cell])
            self.check_graph(graph, ranges, source)

    def check_graph(self, graph, ranges, source):
        edges = {cell: {other for area in ranges[cell] for other in cells_of(area)} for cell in ranges}
        self.assertEqual((graph.ranges, graph.formulas()), (ranges, row_by_row(ranges)))
        areas = [random_range(source, 4, 4) for _ in range(source.randrange(3))]
        goal = {cell for area in areas for cell in cells_of(area)}
        self.assertEqual(graph.reaching(areas), row_by_row([cell for cell in edges if spelled.reached(edges, cell) & goal]))
        for cell in cells_of(((0, 0), (3, 3))):
            self.assertEqual(graph.used_formulas(cell), row_by_row(edges.get(cell, set()) & set(edges)))
            self.assertEqual(graph.reached(cell), row_by_row(spelled.reached(edges, cell) & set(edges)))
            self.assertEqual(graph.users_of(one(cell)), row_by_row([other for other in edges if cell in edges[other]]))
            other = (source.randrange(4), source.randrange(4))
            self.assertEqual(graph.uses(cell, other), other in edges.get(cell, ()))


if __name__ == "__main__":
    unittest.main()
