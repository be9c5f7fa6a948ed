"""Points 67 to 69."""

import unittest

from labelgrid.addresses import SHEET, cells_of, show_address
from labelgrid.denoting import denote
from labelgrid.errors import EntryError
from labelgrid.flow import sees
from labelgrid.reasons import blocking
from labelgrid.witnesses import CHOICES, value_with, witness, witness_right
from tests import spelled
from tests.helpers import at, book_of, check_pure, grant_of, num, small_book, source_of

SECRET = [("B1:B9", [0])]


def changed(book, cell, text):
    entries = {one: book[2][one] for one in book[2] if one != cell}
    if text:
        entries[cell] = text
    return entries


def first_witness(book, user, address):
    """Point 69, word by word."""
    for cell in blocking(book, user, address):
        found = [denote(changed(book, cell, text)).get(address) for text in CHOICES]
        for second in range(len(CHOICES)):
            for first in range(second):
                if found[first] != found[second]:
                    return (cell, CHOICES[first], CHOICES[second])
    return None


class ValueTest(unittest.TestCase):
    BOOK = book_of({"A1": "=B1*2", "B1": "5", "C1": "=A1&D1", "D1": "=A2"}, SECRET)

    def check(self, name, cell, text, value):
        self.assertEqual(check_pure(self, value_with, self.BOOK, at(name), at(cell), text), value)

    def test_choices(self):
        self.assertEqual(CHOICES, ["0", "1", "ab", ""])

    def test_values(self):
        self.check("A1", "B1", "7", num(14))
        self.check("A1", "B1", "", num(0))
        self.check("A1", "B1", "x", ("error", "value"))
        self.check("A1", "B1", "=A1", ("error", "cycle"))
        self.check("A1", "A1", "=B1", num(5))
        self.check("A1", "A1", "", None)
        self.check("A1", "Z9", "7", num(10))
        self.check("Z9", "Z9", "7", num(7))
        self.check("C1", "A2", "x", ("text", "10x"))
        self.check("C1", "Z9", "", ("text", "10"))

    def test_no_entry(self):
        for text in ["=", "=A", "x" * 61]:
            with self.assertRaises(EntryError):
                value_with(self.BOOK, at("A1"), at("B1"), text)


class WitnessTest(unittest.TestCase):
    def check(self, book, table, user=1):
        for name, wanted in table.items():
            found = check_pure(self, witness, book, user, at(name))
            self.assertEqual(found, wanted and (at(wanted[0]), wanted[1], wanted[2]), name)
            if found is not None:
                self.assertIs(check_pure(self, witness_right, book, user, at(name), found), True)

    def test_example(self):
        whole = ((0, 0), (25, 98))
        rules = [(whole, [0, 1], [0], [0]), (((1, 0), (1, 0)), [0], [0], [0])]
        entries = {(0, 0): "=B1*2", (0, 1): "=B1*0", (1, 0): "5"}
        book = ("book", 2, entries, {cell: 0 for cell in entries}, rules, [])
        self.assertEqual((witness(book, 1, (0, 0)), witness(book, 1, (0, 1)), witness(book, 0, (0, 0))),
                         (((1, 0), "0", "1"), ((1, 0), "0", "ab"), None))

    def test_hidden_cells(self):
        book = book_of({"A1": "=B2", "B1": "5", "A2": "=B2*0", "A3": '=LEFT("abc",B2*0)', "A4": "=IF(B3=\"ab\",1,2)", "A5": '=IF(B3&""="",1,2)',
                        "A6": "=LEN(B3)<1", "B4": "=C1", "A7": "=IF(FALSE,B1,3)", "A8": "=COUNT(B1:B9)", "A9": "=B4"}, SECRET)
        self.check(book, {"B2": ("B2", "0", "1"), "A1": ("B2", "0", "1"), "A2": ("B2", "0", "ab"), "A3": ("B2", "0", "ab"),
                          "A4": ("B3", "0", "ab"), "A5": ("B3", "0", ""), "A6": ("B3", "0", ""), "A7": None, "A8": ("B1", "0", "ab"),
                          "A9": ("B4", "0", "1")})
        self.check(book, {name: None for name in "A1 A2 A8 B1 B4".split()}, 0)

    def test_addresses_that_are_seen(self):
        book = book_of({"A1": "=RSUM(B1:B2)", "B1": "5", "A2": "=A1+C1"}, SECRET, [grant_of("B1:B2")])
        self.check(book, {"A1": None, "A2": None, "C1": None})
        self.check(book, {"A1": ("B1", "0", "1"), "A2": ("B1", "0", "1")}, 2)

    def test_two_cells_that_block(self):
        book = book_of({"A1": "=B1*B2", "B1": "0", "B2": "3", "A2": "=IF(B1=1,B2,5)", "A3": "=AND(B3=1,B4=1)", "A4": "=B1-B1+B2-B2"}, SECRET)
        self.check(book, {"A1": ("B1", "0", "1"), "A2": ("B1", "0", "1"), "A3": None, "A4": ("B1", "0", "ab")})
        # At B1 there is none, since B2 is not 1.
        self.check(book_of({"A1": "=AND(B1=1,B2=1)", "B1": "1"}, SECRET), {"A1": ("B2", "0", "1")})

    def test_formulas_that_block(self):
        book = book_of({"A1": "=B1", "B1": "=B2+1", "B2": "=A2", "A2": "=A1", "A3": "=B3+B5", "B3": "=B3", "B5": "1"}, SECRET)
        self.check(book, {"A1": ("B1", "0", "1"), "A2": ("B1", "0", "1"), "A3": ("B3", "0", "1")})

    def test_triples_that_are_no_witnesses(self):
        book = book_of({"A1": "=B1*B2", "B1": "2", "B2": "3", "C1": "=A1+D1"}, SECRET)
        for name, cell, one, other, wanted in [
                ("A1", "B1", "5", "7", True), ("A1", "B1", "", "7", True), ("A1", "B1", "=A1", "7", True), ("A1", "B1", "7", "=B2+1", True),
                ("A1", "B1", "5", "5", False), ("A1", "B1", "5", "5.0", False), ("A1", "B1", "", "0", False), ("A1", "B3", "5", "7", False),
                ("A1", "B1", "=", "7", False), ("A1", "B1", "7", "=A", False), ("A1", "B1", "x" * 61, "7", False),
                ("A1", "B1", "7", "'" * 500, False), ("C1", "D1", "5", "7", False), ("A1", "A1", "5", "7", False), ("B9", "B9", "5", "7", True)]:
            found = check_pure(self, witness_right, book, 1, at(name), (at(cell), one, other))
            self.assertIs(found, wanted, (name, cell, one, other))
        self.assertIs(witness_right(book, 0, at("A1"), (at("B1"), "5", "7")), False)

    def test_made_up_books(self):
        source = source_of(69)
        found = {}
        for _ in range(60):
            book = small_book(source, 4, 4, 3, 30)
            for cell in source.sample(cells_of(((0, 0), (4, 4))), 5):
                one = check_pure(self, witness, book, 1, cell)
                self.assertEqual(one, first_witness(book, 1, cell))
                if one is not None:
                    self.assertTrue(witness_right(book, 1, cell, one))
                    found[one[2]] = True
                if sees(book, 1, cell):
                    self.assertIsNone(one)
        self.assertIn("1", found)

    def test_what_is_seen_has_one_value(self):
        # Point 68, for books without released calls.
        source = source_of(68)
        count = 0
        for _ in range(80):
            book = small_book(source, 4, 4, 3, 30)
            book = book[:5] + ([],)
            entries = dict(book[2])
            for cell in cells_of(((0, 0), (3, 3))):
                if not spelled.may(book, 1, "read", cell) and source.random() < 0.7:
                    entries[cell] = source.choice(["7", "x", "=A1", "=SUM(A1:D4)", "=1/0"])
            values, others = denote(book[2]), denote(entries)
            for cell in entries:
                if sees(book, 1, cell):
                    self.assertEqual(values.get(cell), others.get(cell))
                    count += entries != book[2]
        self.assertGreater(count, 50)

    def test_great_books(self):
        cells = cells_of(SHEET)
        entries = {show_address(cell): f"={show_address(cells[place + 1])}*0" for place, cell in enumerate(cells[:-1])}
        book = book_of(entries, [("A50:Z99", [0])])
        self.check(book, {"A1": ("A50", "0", "ab")})
        entries = {show_address(cell): "=IF(FALSE,Z99,1)" for cell in cells[100:-1]}
        entries["A1"] = "=SUM(A5:Z99)"
        self.check(book_of(entries, [("A99:Z99", [0])]), {"A1": ("A99", "0", "1"), "A50": None})


if __name__ == "__main__":
    unittest.main()
