"""Points 53 to 55, and what point 70 says of ways."""

import itertools
import unittest

from labelgrid.addresses import SHEET, cells_of, place_key, show_address
from labelgrid.flow import hidden_uses, sees
from labelgrid.reasons import blocking, hidden_way, open_cells, open_right, way_right
from labelgrid.shifting import Shift, inserted
from tests import spelled
from tests.helpers import all_at, area_of, at, check_pure, small_book, source_of


def book_of(entries, rules, grants=()):
    entries = {at(name): entries[name] for name in entries}
    rules = [(SHEET, [0, 1, 2], [0], [0])] + [(area_of(text), read, [0], [0]) for text, read in rules]
    return ("book", 3, entries, {cell: 0 for cell in entries}, rules, list(grants))


SECRET = [("B1:B9", [0])]
RELEASE = (area_of("B1:B2"), ["RSUM"], [1], 0, False)


class WayTest(unittest.TestCase):
    def check(self, book, table, user=1):
        for name, way in table.items():
            found = check_pure(self, hidden_way, book, user, at(name))
            self.assertEqual(found, all_at(way), name)
            if way is not None:
                self.assertIs(check_pure(self, way_right, book, user, at(name), found), True)

    def test_example(self):
        whole = ((0, 0), (25, 98))
        rules = [(whole, [0, 1], [0, 1], [0]), (((1, 0), (1, 0)), [0], [0], [0])]
        book = ("book", 2, {(0, 0): "=A2", (0, 1): "=RSUM(B1:B2)", (1, 0): "5"}, {(0, 0): 0, (0, 1): 0, (1, 0): 0}, rules, [])
        self.assertEqual((hidden_way(book, 1, (0, 0)), blocking(book, 1, (0, 0)), open_cells(book, 0, (0, 0))),
                         ([(0, 0), (0, 1), (1, 0)], [(1, 0)], [(0, 0), (0, 1)]))

    def test_none_and_one_address(self):
        book = book_of({"A1": "=A2", "B1": "=A1", "A3": "5"}, SECRET)
        self.check(book, {"A1": None, "A2": None, "A3": None, "Z9": None, "B1": "B1", "B9": "B9"})
        self.check(book, {"A1": None, "B1": None, "B9": None}, 0)

    def test_the_shortest_way(self):
        book = book_of({"A1": "=A2+A3", "A2": "=A4", "A4": "=B1", "A3": "=B9", "A5": "=A1+B2", "A6": "=A1"}, SECRET)
        self.check(book, {"A1": "A1 A3 B9", "A2": "A2 A4 B1", "A5": "A5 B2", "A6": "A6 A1 A3 B9"})

    def test_the_first_one_of_several(self):
        self.check(book_of({"A1": "=B9+B2+B1"}, SECRET), {"A1": "A1 B1"})
        self.check(book_of({"A1": "=SUM(A2:D2)", "D2": "=B1", "C2": "=B5+B4", "A2": "1"}, [("B1:B9", [0]), ("B2:B2", [0, 1])]),
                   {"A1": "A1 C2 B4"})
        # The second address decides, although the last one is behind.
        self.check(book_of({"A1": "=C1+C2", "C1": "=B9", "C2": "=B1"}, SECRET), {"A1": "A1 C1 B9"})
        # Row by row B1 comes in front of A2.
        self.check(book_of({"C9": "=A2+C1", "C1": "=C5", "A2": "=C5", "C5": "=B3"}, SECRET), {"C9": "C9 C1 C5 B3"})

    def test_circles(self):
        self.check(book_of({"A1": "=A2", "A2": "=A1+A3", "A3": "=A2+B1", "A4": "=A4", "A5": "=A6", "A6": "=A5"}, SECRET),
                   {"A1": "A1 A2 A3 B1", "A3": "A3 B1", "A4": None, "A5": None})

    def test_over_calls_that_are_released_and_calls_that_are_not(self):
        book = book_of({"A1": "=RSUM(B1:B2)", "A2": "=RSUM(B1:B3)", "A3": "=A1+RMAX(B1:B2)", "A4": "=RSUM(B1:B2)+B2", "A5": "=A4+A2"},
                       SECRET, [RELEASE])
        self.check(book, {"A1": None, "A2": "A2 B1", "A3": "A3 B1", "A4": "A4 B2", "A5": "A5 A2 B1"})
        self.check(book, {"A1": "A1 B1", "A3": "A3 B1"}, 2)

    def test_lists_that_are_ways(self):
        book = book_of({"A1": "=A2+B1", "A2": "=A1+A2+B3", "B3": "=A2+B4"}, SECRET)
        for way in ["A1 B1", "A1 A2 B3", "A1 A2 A1 B1", "A1 A2 A2 A2 B3", "A1 A2 B3 B4", "A1 A2 B3 A2 B3"]:
            self.assertIs(check_pure(self, way_right, book, 1, at("A1"), all_at(way)), True, way)
        self.assertIs(way_right(book, 1, at("B3"), all_at("B3")), True)
        self.assertIs(way_right(book, 1, at("B9"), all_at("B9")), True)

    def test_lists_that_are_no_ways(self):
        book = book_of({"A1": "=A2+RSUM(B1:B2)", "A2": "=A1+B3", "B3": "=A2+B4", "B5": "7"}, SECRET, [RELEASE])
        for way in ["", "A1", "A1 A2", "A2 B3", "B3", "A1 B1", "A1 B3", "A1 A2 B3 A2", "A1 A2 B4", "A1 A2 B3 B5", "A1 A1 A2 B3", "A1 A9"]:
            self.assertIs(check_pure(self, way_right, book, 1, at("A1"), all_at(way)), False, way)
        self.assertIs(way_right(book, 2, at("A1"), all_at("A1 B1")), True)
        self.assertIs(way_right(book, 0, at("A1"), all_at("A1 A2 B3")), False)

    def test_long_chains(self):
        cells = cells_of(SHEET)
        book = book_of({show_address(cell): f"={show_address(cells[index + 1])}" for index, cell in enumerate(cells[:-1])},
                       [("Z99:Z99", [0])])
        self.assertEqual((hidden_way(book, 1, cells[0]), way_right(book, 1, cells[0], cells)), (cells, True))
        self.assertEqual((open_cells(book, 0, cells[3]), open_right(book, 0, cells[3], cells[3:-1])), (cells[3:-1], True))

    def test_against_the_words_of_the_document(self):
        source = source_of(53)
        lengths = {}
        for _ in range(120):
            book = small_book(source, 4, 4, 3, 25)
            for user in range(3):
                for cell in source.sample(cells_of(((0, 0), (4, 4))), 8):
                    way = check_pure(self, hidden_way, book, user, cell)
                    self.assertEqual(way, spelled.shortest_way(book, user, cell))
                    self.assertEqual(way is None, sees(book, user, cell))
                    lengths[way and len(way)] = True
                    if way is not None:
                        self.assertTrue(way_right(book, user, cell, way))
                        self.assertTrue(all(spelled.may(book, user, "read", other) for other in way[:-1]))
        self.assertTrue({None, 1, 2, 3} <= set(lengths))

    def test_the_first_one_of_all_lists(self):
        source = source_of(54)
        cells = cells_of(((0, 0), (2, 1)))
        lists = [list(way) for length in range(1, 5) for way in itertools.product(cells, repeat=length)]
        lists.sort(key=lambda way: (len(way), [place_key(cell) for cell in way]))
        for _ in range(6):
            book = small_book(source, 3, 2, 2, 20)
            ways = [way for way in lists if way_right(book, 1, way[0], way)]
            for cell in cells:
                mine = [way for way in ways if way[0] == cell]
                found = hidden_way(book, 1, cell)
                self.assertEqual(found if found is None or len(found) < 5 else None, mine[0] if mine else None)

    def test_lists_against_the_words_of_the_document(self):
        source = source_of(55)
        for _ in range(60):
            book = small_book(source, 3, 3, 2, 20)
            for _ in range(20):
                way = [(source.randrange(3), source.randrange(3)) for _ in range(source.randrange(4))]
                cell = way[0] if way and source.random() < 0.9 else (0, 0)
                self.assertEqual(way_right(book, 1, cell, way), spelled.is_way(book, 1, cell, way))


class OpenTest(unittest.TestCase):
    BOOK = book_of({"A1": "=A2+A3", "A2": "=C1", "A3": "=RSUM(B1:B2)", "A4": "=A1+B1", "C1": "5", "A5": "=A5", "A6": "=1", "B3": "=A1"},
                   SECRET, [RELEASE])

    def test_open_lists(self):
        for user, name, cells in [(1, "A1", "A1 A2 A3"), (1, "A2", "A2"), (1, "A3", "A3"), (1, "A4", None), (1, "C1", ""), (1, "Z9", ""),
                                  (1, "B1", None), (1, "B3", None), (1, "A5", "A5"), (1, "A6", "A6"), (2, "A1", None), (2, "A2", "A2"),
                                  (0, "A4", "A1 A2 A3 A4"), (0, "B3", "A1 A2 A3 B3"), (0, "B1", "")]:
            found = check_pure(self, open_cells, self.BOOK, user, at(name))
            self.assertEqual(found, all_at(cells) and sorted(all_at(cells), key=place_key), (user, name))
            if found is not None:
                self.assertIs(check_pure(self, open_right, self.BOOK, user, at(name), found), True)

    def test_lists_that_are_open(self):
        for name, cells in [("A1", "A3 A2 A1"), ("A2", "A2 A6 A5"), ("C1", "A6"), ("C1", "A1 A2 A3"), ("Z9", ""), ("A6", "A6")]:
            self.assertIs(check_pure(self, open_right, self.BOOK, 1, at(name), all_at(cells)), True, (name, cells))

    def test_lists_that_are_not_open(self):
        for name, cells in [("A1", ""), ("A1", "A2 A3"), ("A1", "A1"), ("A1", "A1 A2"), ("A1", "A1 A2 A3 C1"), ("A1", "A1 A2 A3 Z9"),
                            ("A4", "A1 A2 A3 A4"), ("A1", "A1 A2 A3 B3"), ("B1", ""), ("B3", "A1 A2 A3 B3"), ("C1", "A1"), ("C1", "A4"),
                            ("A5", ""), ("B1", "A6"), ("A2", "A2 B2")]:
            self.assertIs(check_pure(self, open_right, self.BOOK, 1, at(name), all_at(cells)), False, (name, cells))
        self.assertIs(open_right(self.BOOK, 2, at("A1"), all_at("A1 A2 A3")), False)
        self.assertIs(open_right(self.BOOK, 0, at("B3"), all_at("A1 A2 A3 B3")), True)

    def test_against_the_words_of_the_document(self):
        source = source_of(56)
        found = {True: 0, False: 0}
        for _ in range(100):
            book = small_book(source, 3, 3, 2, 30)
            formulas = spelled.row_by_row(spelled.formula_cells(book[2]))
            for cell in cells_of(((0, 0), (3, 3))):
                cells = check_pure(self, open_cells, book, 1, cell)
                self.assertEqual(cells is not None, sees(book, 1, cell))
                if cells is not None:
                    self.assertEqual(cells, spelled.row_by_row(cells))
                    self.assertTrue(spelled.is_open_list(book, 1, cell, cells))
                other = [one for one in formulas if source.random() < 0.6]
                right = open_right(book, 1, cell, other)
                self.assertEqual(right, spelled.is_open_list(book, 1, cell, other))
                found[right] += 1
        self.assertTrue(found[True] > 30 and found[False] > 300)


class BlockingTest(unittest.TestCase):
    def check(self, book, table, user=1):
        for name, cells in table.items():
            self.assertEqual(check_pure(self, blocking, book, user, at(name)), all_at(cells), name)

    def test_what_blocks(self):
        book = book_of({"A1": "=A2+B9+B1", "A2": "=B2+C1", "A3": "=C1", "A4": "=A4+B3", "A5": "=SUM(A1:B2)"}, SECRET)
        self.check(book, {"A1": "B1 B2 B9", "A2": "B2", "A3": "", "A4": "B3", "A5": "B1 B2 B9", "C1": "", "B5": "B5"})
        self.check(book, {"A1": "", "B5": ""}, 0)

    def test_over_formulas_that_may_not_be_read(self):
        book = book_of({"A1": "=B1", "B1": "=B2+A2", "A2": "=B5", "B2": "1"}, SECRET)
        self.check(book, {"A1": "B1 B2 B5", "B1": "B1 B2 B5", "B2": "B2"})

    def test_over_calls_that_are_released_and_calls_that_are_not(self):
        book = book_of({"A1": "=RSUM(B1:B2)+A2", "A2": "=RSUM(B2:B3)", "A3": "=RSUM(B1:B2)+A1", "A4": "=RSUM(B1:B2)", "A5": "=A4+B2"},
                       SECRET, [RELEASE])
        self.check(book, {"A1": "B2 B3", "A2": "B2 B3", "A3": "B2 B3", "A4": "", "A5": "B2"})
        self.check(book, {"A1": "B1 B2 B3", "A4": "B1 B2"}, 2)

    def test_against_the_words_of_the_document(self):
        source = source_of(57)
        for _ in range(80):
            book = small_book(source, 4, 4, 3, 30)
            for user in range(3):
                edges = spelled.hidden_edges(book, user)
                for cell in cells_of(((0, 0), (4, 4))):
                    found = check_pure(self, blocking, book, user, cell)
                    cells = {cell} | spelled.reached(edges, cell)
                    self.assertEqual(found, spelled.row_by_row([one for one in cells if not spelled.may(book, user, "read", one)]))
                    self.assertEqual(found == [], sees(book, user, cell))


class InsertionTest(unittest.TestCase):
    def test_each_way_goes_with_its_address(self):
        source = source_of(70)
        ways = 0
        for _ in range(100):
            book = small_book(source, 4, 4)
            kind, start, count = source.choice(["column", "row"]), source.randrange(6), source.randrange(1, 5)
            made, shift = inserted(book, kind, start, count), Shift(True, kind, start, count)
            for user in range(3):
                for cell in cells_of(((0, 0), (4, 4))):
                    way = hidden_way(book, user, cell)
                    if way is not None:
                        ways += 1
                        self.assertTrue(way_right(made, user, shift.address(cell), [shift.address(one) for one in way]))
                        self.assertIsNotNone(hidden_way(made, user, shift.address(cell)))
                    for one in blocking(book, user, cell):
                        self.assertIn(shift.address(one), blocking(made, user, shift.address(cell)))
        self.assertGreater(ways, 300)

    def test_released_uses_stay_released(self):
        source = source_of(71)
        for _ in range(60):
            book = small_book(source, 4, 4)
            made, shift = inserted(book, "row", 2, 3), Shift(True, "row", 2, 3)
            for user in range(3):
                for cell in book[2]:
                    self.assertTrue({shift.area(place) for place in hidden_uses(book, user, cell)}
                                    <= set(hidden_uses(made, user, shift.address(cell))))


if __name__ == "__main__":
    unittest.main()
