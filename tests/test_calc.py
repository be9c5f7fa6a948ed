"""Points 43 to 45."""

import unittest

from labelgrid.addresses import SHEET, cells_of, parse_range, show_address
from labelgrid.calc import Calc
from labelgrid.denoting import denote, graph_of
from labelgrid.errors import EntryError
from tests import spelled
from tests.helpers import all_at, at, num, random_range, small_entries, small_text, source_of

CYCLE = ("error", "cycle")


def calc_of(entries):
    return Calc({at(name): entries[name] for name in entries})


class CalcTest(unittest.TestCase):
    def check(self, calc):
        """All attributes and methods are as they are from scratch."""
        self.assertEqual(calc.results, denote(calc.entries))
        self.assertEqual(calc.graph.ranges, graph_of(calc.entries).ranges)
        circles = spelled.circular_cells(spelled.edges_of(calc.entries))
        for cell in cells_of(((0, 0), (5, 5))):
            self.assertEqual(calc.value(cell), calc.results.get(cell))
            self.assertIs(calc.is_circular(cell), cell in circles)

    def test_at_the_beginning(self):
        calc = calc_of({"A1": "2", "B1": "=A1*3", "C1": "=C1"})
        self.assertEqual((calc.work, calc.results), (0, {at("A1"): num(2), at("B1"): num(6), at("C1"): CYCLE}))
        self.check(calc)
        empty = Calc({})
        self.assertEqual((empty.entries, empty.results, empty.graph.ranges, empty.work), ({}, {}, {}, 0))
        self.assertEqual((empty.value(at("A1")), empty.is_circular(at("A1"))), (None, False))

    def test_put(self):
        calc = calc_of({"A1": "2", "B1": "=A1*3", "C1": "=B1+A1", "D1": "=7"})
        self.assertEqual((calc.put(at("A1"), "5"), calc.work), (all_at("B1 C1"), 2))
        self.assertEqual((calc.value(at("C1")), calc.entries[at("A1")]), (num(20), "5"))
        self.assertEqual((calc.put(at("B1"), "=A1"), calc.work), (all_at("B1 C1"), 4))
        self.assertEqual((calc.put(at("D1"), "=8"), calc.put(at("D1"), "8"), calc.work), (all_at("D1"), [], 5))
        self.check(calc)

    def test_the_same_text_counts_as_a_change(self):
        calc = calc_of({"A1": "2", "B1": "=A1*3", "C1": "=B1"})
        self.assertEqual(calc.put(at("A1"), "2"), all_at("B1 C1"))
        self.assertEqual(calc.put(at("B1"), "=A1*3"), all_at("B1 C1"))
        self.assertEqual(calc.work, 4)

    def test_the_empty_text(self):
        calc = calc_of({"A1": "2", "B1": "=A1+1", "C1": "=D1+B1"})
        self.assertEqual(calc.put(at("A1"), ""), all_at("B1 C1"))
        self.assertEqual((calc.entries, calc.value(at("B1"))), ({at("B1"): "=A1+1", at("C1"): "=D1+B1"}, num(1)))
        self.assertEqual((calc.put(at("D1"), ""), calc.put(at("E1"), ""), calc.work), (all_at("C1"), [], 3))
        self.assertEqual((calc.put(at("B1"), ""), calc.entries), (all_at("C1"), {at("C1"): "=D1+B1"}))
        self.assertEqual(calc.value(at("B1")), None)
        self.check(calc)

    def test_several_texts_at_once(self):
        calc = calc_of({"A1": "2", "B1": "=A1", "C1": "=B1+A2", "D1": "=9"})
        found = calc.put_all({at("A2"): "=D1", at("A1"): "3", at("E1"): "", at("D1"): "", at("B2"): "=C1"})
        self.assertEqual((found, calc.work), (all_at("B1 A2 C1 B2"), 4))
        self.assertEqual(calc.results, {at("A1"): num(3), at("B1"): num(3), at("C1"): num(3), at("B2"): num(3)})
        self.assertEqual((calc.put_all({}), calc.work), ([], 4))
        self.check(calc)

    def test_a_text_that_cannot_be_parsed_among_others(self):
        calc = calc_of({"A1": "2", "B1": "=A1", "C1": "=C1"})
        before = (dict(calc.entries), dict(calc.results), dict(calc.graph.ranges), calc.work)
        for texts, place in [({"A1": "3", "B1": "=1+", "D1": "=("}, 3), ({"D1": "=(", "B1": "=1+"}, 2), ({"A1": "x" * 401}, 400),
                             ({"A1": "", "B1": "", "C1": "x" * 61}, 60)]:
            with self.assertRaises(EntryError) as caught:
                calc.put_all({at(name): texts[name] for name in texts})
            self.assertEqual(caught.exception.at, place)
            self.assertEqual((calc.entries, calc.results, calc.graph.ranges, calc.work), before)
            self.check(calc)
        self.assertRaises(EntryError, calc.put, at("A1"), "=")
        self.assertRaises(EntryError, Calc, {at("A1"): "=1 2"})
        self.assertEqual(calc.put(at("A1"), "4"), all_at("B1"))

    def test_clear(self):
        calc = calc_of({"A1": "2", "B1": "=A1", "C1": "=B1+B2", "A2": "=C1", "C3": "7"})
        self.assertEqual((calc.clear(parse_range("B1:B9")), calc.work), (all_at("C1 A2"), 2))
        self.assertEqual((calc.clear(parse_range("D1:E9")), calc.work), ([], 2))
        # The blank addresses of the range do not count as changed.
        self.assertEqual(calc.clear(parse_range("B1:B9")), [])
        self.assertEqual((calc.clear(SHEET), calc.entries, calc.results), ([], {}, {}))
        self.check(calc)

    def test_cells_that_come_into_a_circle_and_leave_it(self):
        calc = calc_of({"A1": "=B1", "B1": "=C1", "C1": "1", "D1": "=A1", "E1": "=2"})
        self.assertEqual((calc.put(at("C1"), "=A1"), calc.work), ([], 0))
        self.assertEqual([calc.value(cell) for cell in all_at("A1 B1 C1 D1 E1")], [CYCLE] * 4 + [num(2)])
        self.check(calc)
        self.assertEqual((calc.put(at("E1"), "=D1+1"), calc.work), ([], 0))
        self.assertEqual((calc.value(at("E1")), calc.is_circular(at("E1"))), (CYCLE, True))
        self.assertEqual(calc.put(at("C1"), "=5"), all_at("C1 B1 A1 D1 E1"))
        self.assertEqual((calc.value(at("E1")), calc.work), (num(6), 5))
        self.check(calc)

    def test_cells_that_reach_a_circle_that_stays(self):
        calc = calc_of({"A1": "=A1", "B1": "=A1+C1", "C1": "1", "D1": "=C1"})
        self.assertEqual((calc.put(at("C1"), "2"), calc.work), (all_at("D1"), 1))
        self.assertEqual((calc.value(at("B1")), calc.is_circular(at("B1"))), (CYCLE, True))
        self.assertEqual(calc.put(at("B1"), "=C1"), all_at("B1"))
        self.assertEqual(calc.put(at("A1"), ""), [])
        self.check(calc)

    def test_a_circle_that_is_broken_at_a_cell_that_becomes_a_constant(self):
        calc = calc_of({"A1": "=B1", "B1": "=A1"})
        self.assertEqual(calc.put(at("A1"), "1"), all_at("B1"))
        self.assertEqual(calc.put(at("B1"), ""), [])
        self.assertEqual(calc.results, {at("A1"): num(1)})
        self.check(calc)

    def test_the_order_of_work(self):
        calc = calc_of({"A1": "=C1", "B1": "=D1", "C1": "=E1", "D1": "=E1", "E1": "1"})
        self.assertEqual(calc.put(at("E1"), "2"), all_at("C1 A1 D1 B1"))

    def test_values_that_become_none(self):
        calc = calc_of({"A1": "=B1", "B1": "1", "C1": "=A1"})
        calc.put(at("B1"), "")
        self.assertEqual((calc.results, calc.value(at("A1")), calc.work), ({}, None, 2))

    def test_formulas_over_the_whole_sheet(self):
        calc = calc_of({"A1": "1", "M50": "=SUM(A1:Z49)", "N50": "=SUM(A1:Z99)", "O50": "=RCOUNT(A1:Z49)"})
        self.assertEqual(calc.put(at("C3"), "2"), all_at("M50 O50"))
        self.assertEqual(calc.put(at("N50"), "=SUM(A1:Z49)"), all_at("N50"))
        self.assertEqual((calc.put(at("Z49"), "=A1"), calc.value(at("M50"))), (all_at("Z49 M50 N50 O50"), num(4)))
        self.check(calc)

    def test_long_chains(self):
        cells = cells_of(SHEET)
        calc = Calc({})
        for index, cell in enumerate(cells):
            text = "1" if index == 0 else f"={show_address(cells[index - 1])}+1"
            self.assertEqual(calc.put(cell, text), [cell] if index else [])
        self.assertEqual((calc.value(cells[-1]), calc.work), (num(2574), 2573))
        self.assertEqual((calc.put(cells[0], "11"), calc.value(cells[-1])), (cells[1:], num(2584)))
        self.assertEqual((calc.put(cells[0], "=Z99"), calc.is_circular(cells[9])), ([], True))
        self.assertEqual((calc.put(cells[9], "0"), calc.value(cells[8])), (cells[10:] + cells[:9], num(2564 + 8)))

    def test_nothing_is_shared_or_modified(self):
        entries, texts = {at("A1"): "1", at("B1"): "=A1"}, {at("A1"): "2", at("C1"): "=B1"}
        calc = Calc(entries)
        order = calc.put_all(texts)
        order.append(at("Z99"))
        entries.clear()
        self.assertEqual((texts, calc.entries), ({at("A1"): "2", at("C1"): "=B1"},
                                                 {at("A1"): "2", at("B1"): "=A1", at("C1"): "=B1"}))
        texts.clear()
        self.assertEqual(calc.put(at("A1"), "3"), all_at("B1 C1"))
        self.check(calc)

    def change(self, calc, source):
        """Make a change; return the addresses that count as changed, and the list that was returned."""
        kind = source.randrange(4)
        if kind == 0:
            area = random_range(source, 4, 4)
            changed = [cell for cell in calc.entries if cell in cells_of(area)]
            return changed, calc.clear(area)
        texts = {}
        for _ in range(source.randrange(4) if kind == 1 else 1):
            cell = (source.randrange(4), source.randrange(4))
            texts[cell] = "" if source.random() < 0.2 else small_text(source, 4, 4, 30)
        if kind == 1:
            return list(texts), calc.put_all(texts)
        return list(texts), calc.put(list(texts)[0], texts[list(texts)[0]])

    def test_against_the_words_of_the_document(self):
        source = source_of(45)
        for _ in range(25):
            calc = Calc(small_entries(source, 4, 4))
            work = 0
            for _ in range(12):
                changed, found = self.change(calc, source)
                edges = spelled.edges_of(calc.entries)
                cells = [cell for cell in edges if cell in changed or spelled.reached(edges, cell) & set(changed)]
                wanted = set(cells) - spelled.circular_cells(edges)
                self.assertEqual(found, spelled.in_work_order(edges, wanted))
                work += len(found)
                self.assertEqual((calc.work, calc.results), (work, spelled.values(calc.entries)))
                self.check(calc)


if __name__ == "__main__":
    unittest.main()
