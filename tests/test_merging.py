"""Points 108 and 109."""

import unittest

from labelgrid.addresses import SHEET, place_key
from labelgrid.edits import apply_edit, apply_edits, difference, empty_book, entry_of
from labelgrid.merging import merged, touched
from tests.helpers import check_pure, fitting_edit, random_book, source_of

A1, B1, A2 = (0, 0), (1, 0), (0, 1)
GRANT = ((A1, B1), ["RSUM"], [0, 1], 0, False)
REVOKED = GRANT[:4] + (True,)
RULE = ((A1, B1), [0], [1], [])
OTHER = ((A1, A1), [1], [1], [])


def with_grants(grants):
    return empty_book(2)[:5] + (grants,)


class TouchedTest(unittest.TestCase):
    def test_nothing(self):
        book = random_book(source_of(2), 20)
        self.assertEqual(check_pure(self, touched, book, book), [])

    def test_order(self):
        base = apply_edits(empty_book(2), [("cell", A2, "1", 0), ("cell", B1, "1", 0), ("grant", GRANT), ("grant", GRANT)])
        edits = [("grant", GRANT), ("revoke", 1, True), ("rule", 1, RULE), ("cell", A2, "", None), ("cell", B1, "1", 1),
                 ("cell", (2, 0), "5", 1)]
        book = apply_edits(base, edits)
        wanted = [("cell", B1), ("cell", (2, 0)), ("cell", A2), ("rules", None), ("grant", 1), ("grant", 2)]
        self.assertEqual(check_pure(self, touched, base, book), wanted)

    def test_a_change_that_was_taken_back(self):
        book = apply_edits(empty_book(2), [("cell", A1, "1", 0), ("cell", A1, "", None), ("rule", 1, RULE), ("unrule", 1)])
        self.assertEqual(touched(empty_book(2), book), [])

    def test_further_grants_that_are_revoked(self):
        self.assertEqual(touched(with_grants([]), with_grants([REVOKED])), [("grant", 0)])


class MergedTest(unittest.TestCase):
    def check_both(self, base, one, other, wanted):
        self.assertEqual(check_pure(self, merged, base, one, other), wanted)
        self.assertEqual(check_pure(self, merged, base, other, one), wanted)

    def test_example(self):
        base = empty_book(2)
        one = apply_edit(base, ("cell", A1, "1", 0))
        other = apply_edit(base, ("cell", A1, "2", 1))
        self.check_both(base, one, other, (None, [("cell", A1)]))
        self.check_both(base, one, base, (one, []))
        self.check_both(base, base, base, (base, []))

    def test_cells_of_both(self):
        base = apply_edits(empty_book(2), [("cell", A1, "1", 0), ("cell", B1, "2", 0)])
        one = apply_edits(base, [("cell", A1, "", None), ("cell", A2, "3", 1)])
        other = apply_edits(base, [("cell", B1, "2", 1), ("rule", 1, RULE)])
        wanted = apply_edits(base, [("cell", A1, "", None), ("cell", A2, "3", 1), ("cell", B1, "2", 1), ("rule", 1, RULE)])
        self.check_both(base, one, other, (wanted, []))

    def test_the_same_change_on_both_sides(self):
        base = apply_edit(empty_book(2), ("cell", A1, "1", 0))
        one = apply_edits(base, [("cell", A1, "", None), ("cell", B1, "7", 1), ("rule", 1, RULE)])
        self.check_both(base, one, one, (one, []))

    def test_the_author_counts(self):
        base = empty_book(2)
        one = apply_edit(base, ("cell", A1, "1", 0))
        self.check_both(base, one, apply_edit(base, ("cell", A1, "1", 1)), (None, [("cell", A1)]))

    def test_blank_against_changed(self):
        base = apply_edit(empty_book(2), ("cell", A1, "1", 0))
        one = apply_edit(base, ("cell", A1, "", None))
        self.check_both(base, one, apply_edit(base, ("cell", A1, "2", 0)), (None, [("cell", A1)]))

    def test_conflicts_in_order(self):
        base = empty_book(2)
        places = [A2, (3, 0), A1, (0, 5)]
        one = apply_edits(base, [("cell", place, "1", 0) for place in places] + [("rule", 1, RULE)])
        other = apply_edits(base, [("cell", place, "2", 0) for place in places[:3]] + [("rule", 1, OTHER)])
        self.check_both(base, one, other, (None, [("cell", A1), ("cell", (3, 0)), ("cell", A2), ("rules", None)]))

    def test_rules(self):
        base = apply_edit(empty_book(2), ("rule", 1, RULE))
        whole = (SHEET, [1], [1], [1])
        one, other = apply_edit(base, ("rule", 2, OTHER)), apply_edit(base, ("rule", 0, whole))
        self.check_both(base, one, base, (one, []))
        self.check_both(base, one, other, (None, [("rules", None)]))
        self.check_both(base, other, apply_edit(base, ("rule", 0, whole)), (other, []))

    def test_revoked_grants(self):
        base = with_grants([GRANT, GRANT, REVOKED, REVOKED, GRANT])
        one = with_grants([REVOKED, GRANT, GRANT, REVOKED, REVOKED])
        other = with_grants([GRANT, REVOKED, REVOKED, GRANT, REVOKED])
        self.check_both(base, one, other, (with_grants([REVOKED, REVOKED, GRANT, GRANT, REVOKED]), []))

    def test_further_grants_of_one_side(self):
        late = (((4, 4), (5, 5)), ["RMAX"], [1], 1, True)
        base, one = with_grants([GRANT]), with_grants([GRANT, late, GRANT, REVOKED])
        self.check_both(base, one, with_grants([REVOKED]), (with_grants([REVOKED, late, GRANT, REVOKED]), []))

    def test_further_grants_of_both_sides(self):
        late, low = (((4, 4), (5, 5)), ["RMAX"], [1], 1, True), (((0, 0), (0, 5)), ["RSUM"], [1], 1, False)
        base = with_grants([late])
        one, other = with_grants([late, late, GRANT]), with_grants([late, REVOKED, low])
        self.check_both(base, one, other, (with_grants([late, low, GRANT, REVOKED, late]), []))

    def test_random_books(self):
        source = source_of(109)
        clean = 0
        for _ in range(400):
            base = random_book(source, source.randrange(8))
            books = []
            for _ in range(2):
                book = base
                for _ in range(source.randrange(5)):
                    book = apply_edit(book, fitting_edit(source, book))
                books.append(book)
            found = check_pure(self, merged, base, books[0], books[1])
            self.assertEqual(found, merged(base, books[1], books[0]))
            clean += self.check_words(base, books, found)
        self.assertGreater(clean, 50)

    def check_words(self, base, books, found):
        """Check conflicts and, where nothing is touched by both, the last sentence of point 109."""
        both = [thing for thing in touched(base, books[0]) if thing in touched(base, books[1])]
        cells = [thing for thing in both if thing[0] == "cell"]
        wrong = [thing for thing in cells if entry_of(books[0], thing[1]) != entry_of(books[1], thing[1])]
        self.assertEqual(wrong, sorted(wrong, key=lambda thing: place_key(thing[1])))
        if ("rules", None) in both and books[0][4] != books[1][4]:
            wrong.append(("rules", None))
        if wrong:
            self.assertEqual(found, (None, wrong))
            return 0
        self.assertEqual(found[1], [])
        if both:
            return 0
        edits = [[edit for edit in difference(base, book) if edit[0] in ("cell", "rule", "unrule")] for book in books]
        for order in (edits[0] + edits[1], edits[1] + edits[0]):
            self.assertEqual(found[0][:5], apply_edits(base, order)[:5])
        return 1


if __name__ == "__main__":
    unittest.main()
