"""Points 84 to 86."""

import unittest

from labelgrid.addresses import cells_of
from labelgrid.edits import apply_edit
from labelgrid.visible import seen_value, seen_work
from tests import spelled
from tests.helpers import all_at, at, book_of, check_pure, grant_of, num, small_book, small_text, source_of

SECRET = [("B1:B9", [0])]


class ValueTest(unittest.TestCase):
    BOOK = book_of({"A1": "=B1", "A2": "=RSUM(B1:B2)", "A3": "=A1*0", "A4": "=A4", "B1": "5", "A5": "=A2&1/0", "A6": "'", "B2": "=A4"},
                   SECRET, [grant_of("B1:B2")])

    def check(self, user, table):
        for name, value in table.items():
            self.assertEqual(check_pure(self, seen_value, self.BOOK, user, at(name)), value, name)

    def test_what_is_seen(self):
        cycle = ("error", "cycle")
        self.check(0, {"A1": num(5), "A2": cycle, "A3": num(0), "A4": cycle, "B1": num(5), "A6": ("text", ""), "Z9": None, "B9": None})
        self.check(1, {"A2": cycle, "A4": cycle, "A6": ("text", ""), "Z9": None})

    def test_what_is_hidden(self):
        denied = ("denied",)
        self.check(1, {"A1": denied, "A3": denied, "B1": denied, "B2": denied, "B9": denied})
        self.check(2, {"A2": denied, "A5": denied, "A4": ("error", "cycle")})

    def test_made_up_books(self):
        source = source_of(84)
        for _ in range(40):
            book = small_book(source)
            for cell in source.sample(cells_of(((0, 0), (4, 4))), 6):
                for user in range(3):
                    self.assertEqual(check_pure(self, seen_value, book, user, cell), spelled.seen_value(book, user, cell))


class WorkTest(unittest.TestCase):
    def check(self, before, name, text, cells, user=1):
        edit = ("cell", at(name), text, 1 if text else None)
        after = before if text == before[2].get(at(name), "") else apply_edit(before, edit)
        found = check_pure(self, seen_work, before, after, user, at(name))
        self.assertEqual(found, all_at(cells))
        self.assertEqual(found, spelled.seen_work(before, after, user, at(name)))

    def test_all_that_is_seen(self):
        book = book_of({"A1": "1", "A2": "=A1+1", "A3": "=A2", "C1": "=SUM(A2:A9)", "C2": "=C9", "A4": "=IF(TRUE,1,A1)"})
        self.check(book, "A1", "2", "A1 C1 A2 A3 A4")
        self.check(book, "A3", "2", "C1 A3")
        self.check(book, "C9", "2", "C2 C9")
        self.check(book, "Z9", "2", "Z9")

    def test_sets_that_change_nothing(self):
        book = book_of({"A1": "1", "A2": "=A1+1", "C2": "=C9"})
        self.check(book, "A1", "1", "A1 A2")
        self.check(book, "C9", "", "C2")
        self.check(book, "C8", "", "")

    def test_sets_that_blank_a_cell(self):
        book = book_of({"A1": "1", "A2": "=A1+1", "A3": "=A2"})
        self.check(book, "A1", "", "A2 A3")
        self.check(book, "A2", "", "A3")
        self.check(book, "A3", "", "")

    def test_circles(self):
        book = book_of({"A1": "1", "A2": "=A1+1", "A3": "=A2", "A4": "=A4+A1", "A5": "=A4"})
        self.check(book, "A1", "=A3", "A1 A2 A3 A4 A5")
        circle = book_of({"A1": "=A3", "A2": "=A1+1", "A3": "=A2", "A9": "=A9"})
        self.check(circle, "A1", "5", "A1 A2 A3")
        self.check(circle, "A2", "", "A1 A3")

    def test_cells_that_only_hidden_cells_lead_to(self):
        book = book_of({"A1": "1", "B1": "=A1", "A2": "=RSUM(B1:B2)", "A3": "=A2", "A4": "=B1", "A5": "=RSUM(B1:B2)+A1"}, SECRET, [grant_of("B1:B2")])
        self.check(book, "A1", "2", "A1 A5")
        # The cells that use B1 itself count, although B1 does not.
        self.check(book, "B1", "2", "A2 A3 A5")
        self.check(book, "B2", "2", "A2 A3 A5")
        self.check(book, "B3", "2", "")
        self.check(book, "A1", "2", "A1 B1 A2 A3 A4 A5", 0)

    def test_what_changes_what_is_seen(self):
        book = book_of({"A1": "1", "A2": "=A1", "A3": "=A2", "C1": "=A2+B1"}, SECRET)
        self.check(book, "A1", "=B1", "")
        self.check(book, "A2", "=B1", "")
        self.check(book, "A2", "=A1*2", "A2 A3")
        hidden = apply_edit(book, ("cell", at("A1"), "=B1", 0))
        self.check(hidden, "A1", "1", "")
        self.check(hidden, "A2", "1", "")
        self.check(hidden, "A9", "=A3", "")
        self.check(apply_edit(hidden, ("cell", at("A9"), "=C1+C2", 0)), "C2", "5", "C2")

    def test_made_up_books(self):
        source = source_of(85)
        counts = {}
        for _ in range(50):
            book = small_book(source, 4, 4, 3, 25)
            cell = (source.randrange(4), source.randrange(4))
            text = small_text(source, 4, 4, 30) if source.random() < 0.8 or cell not in book[2] else ""
            after = apply_edit(book, ("cell", cell, text, 1 if text else None))
            for user in range(3):
                found = check_pure(self, seen_work, book, after, user, cell)
                self.assertEqual(found, spelled.seen_work(book, after, user, cell))
                counts[len(found)] = True
        self.assertGreater(len(counts), 5)


if __name__ == "__main__":
    unittest.main()
