"""Point 110."""

import copy
import unittest

from labelgrid.edits import apply_edit, apply_edits, empty_book, entry_of
from labelgrid.errors import EditError
from labelgrid.timeline import Timeline
from tests.helpers import boxes_in, fitting_edit, random_book, source_of

A1, B1 = (0, 0), (1, 0)
RULE = ((A1, B1), [0], [1], [])
GRANT = ((A1, B1), ["RSUM"], [0, 1], 0, False)


class TimelineTest(unittest.TestCase):
    def setUp(self):
        self.line = Timeline(empty_book(2))

    def add_all(self, edits):
        return [self.line.add(edit) for edit in edits]

    def check_step(self, function, *args):
        with self.assertRaises(EditError) as caught:
            function(*args)
        self.assertEqual(caught.exception.place, "step")

    def test_example(self):
        self.assertEqual(self.add_all([("cell", A1, "1", 0), ("cell", A1, "1", 0), ("cell", A1, "2", 1)]), [1, 2, 3])
        self.assertEqual(self.line.changes_of(A1), [(1, "1", 0), (3, "2", 1)])
        self.assertEqual(self.line.book_at(1)[3], {A1: 0})

    def test_without_edits(self):
        self.assertEqual((self.line.length(), self.line.changes_of(A1)), (0, []))
        self.assertEqual((self.line.book, self.line.book_at(0)), (empty_book(2), empty_book(2)))
        self.check_step(self.line.book_at, 1)

    def test_books(self):
        edits = [("cell", A1, "1", 0), ("rule", 1, RULE), ("cell", A1, "", None), ("grant", GRANT), ("revoke", 0, True),
                 ("unrule", 1)]
        self.add_all(edits)
        for count in range(7):
            self.assertEqual(self.line.book_at(count), apply_edits(empty_book(2), edits[:count]))
        self.assertEqual((self.line.book, self.line.length()), (self.line.book_at(6), 6))

    def test_changes(self):
        self.add_all([("cell", A1, "1", 0), ("cell", B1, "x", 0), ("cell", A1, "1", 1), ("rule", 1, RULE),
                      ("cell", A1, "", None), ("cell", A1, "1", 1), ("cell", A1, "1.0", 1), ("cell", A1, "1.0", 1)])
        wanted = [(1, "1", 0), (3, "1", 1), (5, "", None), (6, "1", 1), (7, "1.0", 1)]
        self.assertEqual(self.line.changes_of(A1), wanted)
        self.assertEqual((self.line.changes_of(B1), self.line.changes_of((5, 5))), ([(2, "x", 0)], []))

    def test_entries_of_the_first_book_are_no_changes(self):
        self.line = Timeline(apply_edit(empty_book(2), ("cell", A1, "1", 0)))
        self.add_all([("cell", A1, "1", 0), ("cell", A1, "2", 0)])
        self.assertEqual(self.line.changes_of(A1), [(2, "2", 0)])

    def test_numbers_that_are_not_known(self):
        self.add_all([("cell", A1, "1", 0), ("cell", A1, "2", 0)])
        for count in (-1, 3, 100):
            self.check_step(self.line.book_at, count)
            self.check_step(self.line.forget, count)
        self.assertEqual((self.line.length(), self.line.book_at(0)), (2, empty_book(2)))

    def test_forgetting(self):
        edits = [("cell", A1, str(number), 0) for number in range(5)]
        self.add_all(edits)
        books = [self.line.book_at(count) for count in range(6)]
        self.assertIsNone(self.line.forget(2))
        for count in (-1, 0, 1, 6):
            self.check_step(self.line.book_at, count)
            self.check_step(self.line.forget, count)
        self.assertEqual([self.line.book_at(count) for count in range(2, 6)], books[2:])
        self.assertEqual((self.line.length(), self.line.book), (5, books[5]))
        self.assertEqual(self.line.changes_of(A1), [(3, "2", 0), (4, "3", 0), (5, "4", 0)])
        self.assertEqual(self.line.add(("cell", B1, "1", 1)), 6)
        self.assertEqual((self.line.book_at(5), self.line.book_at(6)), (books[5], self.line.book))

    def test_forgetting_again(self):
        self.add_all([("cell", A1, str(number), 0) for number in range(5)])
        for count in (1, 1, 3, 5, 5):
            self.line.forget(count)
        self.check_step(self.line.book_at, 4)
        self.assertEqual((self.line.book_at(5)[2], self.line.changes_of(A1), self.line.length()), ({A1: "4"}, [], 5))
        self.assertEqual(self.line.add(("cell", A1, "4", 0)), 6)
        self.assertEqual(self.line.add(("cell", A1, "4", 1)), 7)
        self.assertEqual(self.line.changes_of(A1), [(7, "4", 1)])

    def test_an_edit_that_does_not_fit(self):
        self.add_all([("cell", A1, "1", 0)])
        for edit, place in [(("cell", B1, "", None), "cell"), (("cell", A1, "=", 0), "text"), (("unrule", 0), "rule"),
                            (("revoke", 0, True), "grant"), (("cell", A1, "1", 9), "user")]:
            with self.assertRaises(EditError) as caught:
                self.line.add(edit)
            self.assertEqual(caught.exception.place, place)
            self.assertEqual((self.line.length(), self.line.book), (1, self.line.book_at(1)))

    def test_nothing_is_modified_or_shared(self):
        start, edits = empty_book(2), [("rule", 1, copy.deepcopy(RULE)), ("grant", copy.deepcopy(GRANT)), ("revoke", 0, True)]
        line = Timeline(start)
        before = copy.deepcopy((start, edits))
        for edit in edits:
            line.add(edit)
        kept = boxes_in((start, edits, line.book))
        for count in range(4):
            found = line.book_at(count)
            self.assertEqual([box for box in boxes_in(found) if box in kept], [])
            found[4].clear()
            found[5].clear()
        line.forget(2)
        line.book_at(2)[4].clear()
        self.assertEqual(line.book_at(2), apply_edits(empty_book(2), edits[:2]))
        self.assertEqual((start, edits), before)

    def test_random_edits(self):
        source = source_of(110)
        for _ in range(30):
            books = [random_book(source, source.randrange(6))]
            line = Timeline(books[0])
            first = 0
            for number in range(1, 30):
                edit = fitting_edit(source, books[-1])
                self.assertEqual(line.add(edit), number)
                books.append(apply_edit(books[-1], edit))
                if source.random() < 0.1:
                    first = source.randrange(first, number + 1)
                    line.forget(first)
            self.assertEqual([line.book_at(count) for count in range(first, 30)], books[first:])
            for address in [A1, B1, (0, 1)]:
                entries = [entry_of(book, address) for book in books]
                wanted = [(n,) + entries[n] for n in range(first + 1, 30) if entries[n] != entries[n - 1]]
                self.assertEqual(line.changes_of(address), wanted)


if __name__ == "__main__":
    unittest.main()
