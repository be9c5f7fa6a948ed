"""Point 44, with points 4 and 13 to 16."""

import unittest

from labelgrid.addresses import SHEET, cells_of, parse_address, show_address
from labelgrid.denoting import denote, graph_of
from labelgrid.errors import EntryError
from tests import spelled
from tests.helpers import check_pure, num, small_entries, source_of

CYCLE = ("error", "cycle")


class DenoteTest(unittest.TestCase):
    def check(self, entries, wanted):
        entries = {parse_address(name): entries[name] for name in entries}
        wanted = {parse_address(name): wanted[name] for name in wanted}
        self.assertEqual(check_pure(self, denote, entries), wanted)

    def test_example(self):
        entries = {(0, 0): "2", (1, 0): "=A1*3", (2, 0): "=IF(TRUE,1,C1)"}
        self.assertEqual(denote(entries), {(0, 0): num(2), (1, 0): num(6), (2, 0): CYCLE})

    def test_constants(self):
        self.check({}, {})
        self.check({"A1": "1.5", "B1": "TRUE", "C1": "abc", "D1": "'", "E1": "'=A1", "Z99": "-0"},
                   {"A1": ("num", 15000), "B1": ("bool", True), "C1": ("text", "abc"), "D1": ("text", ""), "E1": ("text", "=A1"),
                    "Z99": ("text", "-0")})

    def test_values_that_are_none(self):
        self.check({"A1": "=B1", "A2": "=A1", "A3": "=IF(TRUE,Z99,1)", "A4": "=A1+0", "A5": "=A1=A2", "A6": "=COUNT(A1:A3)"},
                   {"A4": num(0), "A5": ("bool", True), "A6": num(0)})

    def test_formulas_over_formulas(self):
        self.check({"A1": "=B1+C1", "B1": "=C1*2", "C1": "=A2", "A2": "5"}, {"A1": num(15), "B1": num(10), "C1": num(5), "A2": num(5)})
        self.check({"A1": "=1/0", "B1": "=A1&1", "C1": "=#REF", "D1": "=SUM(A1:C1)", "E1": "=C1+A1"},
                   {"A1": ("error", "zero"), "B1": ("error", "zero"), "C1": ("error", "name"), "D1": ("error", "zero"),
                    "E1": ("error", "name")})

    def test_circular_cells(self):
        self.check({"A1": "=A1"}, {"A1": CYCLE})
        self.check({"A1": "=B1", "B1": "=A1+1", "C1": "=B1*0", "D1": "=1"}, {"A1": CYCLE, "B1": CYCLE, "C1": CYCLE, "D1": num(1)})
        self.check({"A1": "=RSUM(A1:B2)", "B2": "1"}, {"A1": CYCLE, "B2": num(1)})

    def test_circular_cells_whatever_the_functions_do(self):
        self.check({"A1": "=IF(TRUE,1,A1)", "B1": "=IF(FALSE,A1,2)", "C1": "=IF(1=1,C2,D1)", "D1": "=IF(FALSE,C1,1)"},
                   {"A1": CYCLE, "B1": CYCLE, "C1": CYCLE, "D1": CYCLE})
        self.check({"A1": "=COUNT(A1:A3)", "B1": '=IF(1/0,B1,1)', "C1": "=OR(TRUE,C1)", "D1": "=#REF+D1", "E1": "=LEN(B1)"},
                   {"A1": CYCLE, "B1": CYCLE, "C1": CYCLE, "D1": CYCLE, "E1": CYCLE})

    def test_long_chains(self):
        cells = cells_of(SHEET)
        entries = {cell: f"={show_address(cells[index + 1])}+1" for index, cell in enumerate(cells[:-1])}
        entries[cells[-1]] = "1"
        found = denote(entries)
        self.assertEqual([found[cells[0]], found[cells[1000]], len(found)], [num(2574), num(1574), 2574])
        entries[cells[-1]] = "=M50"
        self.assertEqual(set(denote(entries).values()), {CYCLE})

    def test_calls_over_great_ranges_with_few_entries(self):
        self.check({"A1": "1", "Z98": "2", "M50": "x", "A99": "=SUM(A1:Z98)", "B99": "=COUNT(A1:Z98)", "C99": "=JOIN(A1:Z98)",
                    "D99": "=RMAX(A1:Z98)", "E99": "=AVG(A1:A98,Z1:Z98)", "F99": "=SUM(A1:Z98)+SUM(A99:D99)"},
                   {"A1": num(1), "Z98": num(2), "M50": ("text", "x"), "A99": num(3), "B99": num(2), "C99": ("text", "1x2"),
                    "D99": num(2), "E99": ("num", 15000), "F99": num(10)})

    def test_calls_over_the_whole_sheet(self):
        self.check({"M50": "=SUM(A1:Z99)", "A1": "1", "A2": "=A1", "A3": "=M50", "A4": "=RCOUNT(A1:Z99)"},
                   {"M50": CYCLE, "A1": num(1), "A2": num(1), "A3": CYCLE, "A4": CYCLE})

    def test_calls_over_ranges_that_are_all_formulas(self):
        entries = {cell: "1" if cell[1] == 0 else f"=SUM(A1:Z{cell[1]})" for cell in cells_of(((0, 0), (25, 6)))}
        self.assertEqual(denote(entries)[(3, 6)], num(26 * 27 ** 5))

    def test_errors_in_great_ranges_are_the_first_as_they_are_read(self):
        self.check({"Z1": "=1/0", "A2": "=#REF", "A99": "=SUM(A1:Z98)", "B99": "=SUM(A2:Z98,A1:Z1)"},
                   {"Z1": ("error", "zero"), "A2": ("error", "name"), "A99": ("error", "zero"), "B99": ("error", "name")})

    def test_against_the_words_of_the_document(self):
        source = source_of(44)
        circles = 0
        for _ in range(300):
            entries = small_entries(source, 4, 4, source.choice([30, 60]))
            found = check_pure(self, denote, entries)
            self.assertEqual(found, spelled.values(entries))
            circles += CYCLE in found.values()
        self.assertTrue(50 < circles < 290)

    def test_the_order_of_the_entries_does_not_matter(self):
        source = source_of(45)
        for _ in range(50):
            entries = small_entries(source, 4, 4, 40)
            other = {cell: entries[cell] for cell in reversed(entries)}
            self.assertEqual(denote(entries), denote(other))

    def test_texts_that_are_no_entries(self):
        self.assertRaises(EntryError, denote, {(0, 0): "1", (1, 0): "=1+"})


class GraphOfTest(unittest.TestCase):
    def test_formulas_alone(self):
        entries = {(0, 0): "=A2+SUM(B1:C2, RSUM(A2))", (1, 0): "5", (2, 0): "'=A1", (3, 0): "=1"}
        graph = check_pure(self, lambda given: graph_of(given).ranges, entries)
        self.assertEqual(graph, {(0, 0): [((0, 1), (0, 1)), ((1, 0), (2, 1)), ((0, 1), (0, 1))], (3, 0): []})
        self.assertEqual(graph_of({}).formulas(), [])

    def test_against_the_words_of_the_document(self):
        source = source_of(46)
        for _ in range(50):
            entries = small_entries(source, 4, 4)
            graph = graph_of(entries)
            edges = spelled.edges_of(entries)
            self.assertEqual(graph.formulas(), spelled.row_by_row(edges))
            for cell in edges:
                self.assertEqual({other for area in graph.ranges[cell] for other in cells_of(area)}, edges[cell])


if __name__ == "__main__":
    unittest.main()
