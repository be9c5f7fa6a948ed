"""Point 52, and what point 70 says of sources."""

import unittest

from labelgrid.addresses import SHEET, cells_of, show_address
from labelgrid.denoting import denote
from labelgrid.shifting import Shift, inserted
from labelgrid.sources import addresses_below, borne_by, sources_of
from tests import spelled
from tests.helpers import all_at, at, check_pure, small_book, small_text, source_of


def book_of(table, users=4):
    """A book from a dict of addresses to pairs of entries and authors."""
    entries = {at(name): table[name][0] for name in table}
    authors = {at(name): table[name][1] for name in table}
    everybody = list(range(users))
    return ("book", users, entries, authors, [(SHEET, everybody, everybody, everybody)], [((at("C1"), at("C9")), ["RSUM"], [1], 0, False)])


BOOK = book_of({"A1": ("=B1+Z9", 0), "B1": ("=RSUM(C1:C9)", 1), "C2": ("4", 2), "C3": ("=C4", 3), "D1": ("=D2", 2), "D2": ("=D1+A9", 0),
                "E1": ("=IF(TRUE,1,C2)", 1), "F1": ("=5", 3)})


class SourcesTest(unittest.TestCase):
    def check(self, name, cells, users):
        self.assertEqual(check_pure(self, addresses_below, BOOK[2], at(name)), all_at(cells), name)
        self.assertEqual(check_pure(self, sources_of, BOOK, at(name)), users, name)

    def test_what_an_address_rests_on(self):
        self.check("A1", "A1 B1 C2 C3", [0, 1, 2, 3])
        self.check("C2", "C2", [2])
        self.check("C3", "C3", [3])
        self.check("E1", "E1 C2", [1, 2])
        self.check("F1", "F1", [3])

    def test_what_is_reached_by_released_calls_counts(self):
        self.check("B1", "B1 C2 C3", [1, 2, 3])

    def test_addresses_without_entries(self):
        for name in ("Z9", "C4", "A99"):
            self.check(name, "", [])

    def test_circles(self):
        self.check("D1", "D1 D2", [0, 2])
        self.check("D2", "D1 D2", [0, 2])

    def test_row_by_row(self):
        entries = {at("A9"): "=SUM(A1:C3)", at("C1"): "1", at("A3"): "2", at("B2"): "3", at("A1"): "4"}
        self.assertEqual(addresses_below(entries, at("A9")), all_at("A1 C1 B2 A3 A9"))

    def test_borne_by(self):
        table = {0: "A1 D1 D2", 1: "A1 B1 E1", 2: "A1 B1 D1 E1 C2 D2", 3: "A1 B1 F1 C3"}
        for user, cells in table.items():
            self.assertEqual(check_pure(self, borne_by, BOOK, user), all_at(cells))
        self.assertEqual(borne_by(book_of({}), 0), [])

    def test_long_chains_and_great_ranges(self):
        cells = cells_of(SHEET)
        book = book_of({show_address(cell): (f"={show_address(cells[index + 1])}", index % 4) for index, cell in enumerate(cells[:-1])})
        self.assertEqual((addresses_below(book[2], cells[7]), sources_of(book, cells[-2])), (cells[7:-1], [2572 % 4]))
        self.assertEqual((borne_by(book, 0), sources_of(book, cells[0])), (cells[:-1], [0, 1, 2, 3]))
        book = book_of({show_address(cell): ("=SUM(A1:Z99)", 1) for cell in cells})
        self.assertEqual((addresses_below(book[2], cells[7]), borne_by(book, 0), borne_by(book, 1)), (cells, [], cells))

    def test_against_the_words_of_the_document(self):
        source = source_of(52)
        for _ in range(80):
            book = small_book(source, 4, 4)
            users = {}
            for cell in cells_of(((0, 0), (4, 4))):
                wanted = spelled.below(book[2], cell)
                self.assertEqual(check_pure(self, addresses_below, book[2], cell), wanted)
                users[cell] = sorted({book[3][other] for other in wanted})
                self.assertEqual(check_pure(self, sources_of, book, cell), users[cell])
            for user in range(3):
                self.assertEqual(check_pure(self, borne_by, book, user), [cell for cell in users if cell in book[2] and user in users[cell]])

    def test_values_depend_on_nothing_else(self):
        source = source_of(53)
        for _ in range(80):
            book = small_book(source, 4, 4)
            cell = source.choice(list(book[2]))
            below = addresses_below(book[2], cell)
            reached = {cell} | spelled.reached(spelled.edges_of(book[2]), cell)
            entries = {other: book[2][other] for other in below}
            self.assertEqual(denote(entries).get(cell), denote(book[2]).get(cell))
            for other in cells_of(((0, 0), (4, 4))):
                if other not in reached:
                    entries[other] = small_text(source, 5, 5, 40)
            self.assertEqual(denote(entries).get(cell), denote(book[2]).get(cell))

    def test_behind_an_insertion(self):
        source = source_of(70)
        for _ in range(60):
            book = small_book(source, 4, 4)
            kind, start, count = source.choice(["column", "row"]), source.randrange(6), source.randrange(1, 5)
            made, shift = inserted(book, kind, start, count), Shift(True, kind, start, count)
            for cell in cells_of(((0, 0), (4, 4))):
                self.assertEqual(sources_of(made, shift.address(cell)), sources_of(book, cell))
                self.assertEqual(set(addresses_below(made[2], shift.address(cell))),
                                 {shift.address(other) for other in addresses_below(book[2], cell)})


if __name__ == "__main__":
    unittest.main()
