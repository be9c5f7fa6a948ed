"""Points 100 to 104."""

import unittest

from labelgrid.addresses import SHEET
from labelgrid.edits import apply_edit, apply_edits, back_from, difference, empty_book, entry_of
from labelgrid.errors import EditError
from tests.helpers import check_pure, fitting_edit, random_book, random_edit, source_of

A1, B1, A2 = (0, 0), (1, 0), (0, 1)
SMALL = (A1, B1)
RULE = (SMALL, [0], [1], [])
WHOLE = (SHEET, [0], [], [0, 1])
GRANT = (SMALL, ["RSUM", "RMAX"], [0, 1], 0, False)
REVOKED = (SMALL, ["RSUM", "RMAX"], [0, 1], 0, True)


class EmptyTest(unittest.TestCase):
    def test_empty_book(self):
        everybody = [0, 1, 2]
        self.assertEqual(empty_book(3), ("book", 3, {}, {}, [(SHEET, everybody, everybody, everybody)], []))
        self.assertEqual(empty_book(12)[4][0][3], list(range(12)))

    def test_lists_are_not_shared(self):
        rule = empty_book(1)[4][0]
        self.assertFalse(rule[1] is rule[2] or rule[2] is rule[3] or rule[1] is rule[3])

    def test_entry_of(self):
        book = apply_edit(empty_book(2), ("cell", A1, "=1", 1))
        self.assertEqual((entry_of(book, A1), entry_of(book, B1)), (("=1", 1), ("", None)))


class ApplyTest(unittest.TestCase):
    def test_cells(self):
        book = check_pure(self, apply_edit, empty_book(2), ("cell", A1, "=1", 1))
        self.assertEqual((book[2], book[3]), ({A1: "=1"}, {A1: 1}))
        book = check_pure(self, apply_edit, book, ("cell", A1, "2", 0))
        self.assertEqual((book[2], book[3]), ({A1: "2"}, {A1: 0}))
        self.assertEqual(apply_edit(book, ("cell", A1, "2", 0)), book)
        book = check_pure(self, apply_edit, book, ("cell", A1, "", None))
        self.assertEqual(book, empty_book(2))

    def test_texts_stay_as_they_were_typed(self):
        book = apply_edit(empty_book(1), ("cell", A1, "=(A1)*( 2.50 )", 0))
        self.assertEqual(book[2], {A1: "=(A1)*( 2.50 )"})

    def test_rules(self):
        book = check_pure(self, apply_edit, empty_book(2), ("rule", 1, RULE))
        self.assertEqual(book[4], empty_book(2)[4] + [RULE])
        book = check_pure(self, apply_edit, book, ("rule", 0, WHOLE))
        self.assertEqual(book[4], [WHOLE, RULE])
        book = apply_edits(book, [("rule", 2, WHOLE), ("rule", 1, WHOLE), ("rule", 2, RULE)])
        self.assertEqual(book[4], [WHOLE, WHOLE, RULE])
        book = check_pure(self, apply_edit, book, ("unrule", 1))
        self.assertEqual(book[4], [WHOLE, RULE])

    def test_grants(self):
        book = check_pure(self, apply_edit, empty_book(2), ("grant", GRANT))
        self.assertEqual(book[5], [GRANT])
        other = (SMALL, ["RMIN"], [], 1, False)
        book = apply_edit(book, ("grant", other))
        self.assertEqual(book[5], [GRANT, other])
        book = check_pure(self, apply_edit, book, ("revoke", 0, True))
        self.assertEqual(book[5], [REVOKED, other])
        self.assertEqual(apply_edit(book, ("revoke", 0, False))[5], [GRANT, other])

    def test_several(self):
        edits = [("cell", A1, "1", 0), ("cell", A1, "", None), ("grant", GRANT), ("revoke", 0, True)]
        book = check_pure(self, apply_edits, empty_book(2), edits)
        self.assertEqual(book, empty_book(2)[:5] + ([REVOKED],))
        self.assertEqual(check_pure(self, apply_edits, book, []), book)


class WrongTest(unittest.TestCase):
    def setUp(self):
        edits = [("cell", A1, "1", 0), ("rule", 1, RULE), ("grant", GRANT), ("grant", GRANT), ("revoke", 1, True)]
        self.book = apply_edits(empty_book(2), edits)

    def check_told(self, place, edits):
        for edit in edits:
            before = repr(self.book)
            for doing in (lambda: apply_edit(self.book, edit), lambda: apply_edits(self.book, [("cell", A2, "7", 0), edit])):
                with self.assertRaises(EditError) as caught:
                    doing()
                self.assertEqual(caught.exception.place, place, edit)
            self.assertEqual(repr(self.book), before)

    def test_cell(self):
        self.check_told("cell", [("cell", B1, "", None), ("cell", A1, "", 0), ("cell", B1, "", 1), ("cell", B1, "", 7)])

    def test_user(self):
        self.check_told("user", [("cell", A1, "1", None), ("cell", B1, "1", 2), ("cell", B1, "1", -1), ("cell", A1, "1", 12)])

    def test_user_is_told_before_text(self):
        self.check_told("user", [("cell", A1, "=1+", None), ("cell", B1, "=", 2), ("cell", B1, "x" * 401, 5)])

    def test_text(self):
        self.check_told("text", [("cell", A1, "=1+", 0), ("cell", B1, "=", 1), ("cell", B1, "x" * 61, 1),
                                 ("cell", B1, "=" + "+".join(["1"] * 200) + " ", 0)])

    def test_rule(self):
        self.check_told("rule", [("rule", 3, RULE), ("rule", -1, RULE), ("rule", 0, RULE), ("rule", 3, WHOLE),
                                 ("rule", 0, ((A1, (25, 97)), [], [], []))])

    def test_unrule(self):
        self.check_told("rule", [("unrule", 0), ("unrule", 2), ("unrule", -1), ("unrule", 7)])

    def test_grant(self):
        self.check_told("grant", [("grant", REVOKED), ("revoke", 2, True), ("revoke", -1, True), ("revoke", -1, False), ("revoke", 2, False),
                                  ("revoke", 0, False), ("revoke", 1, True)])

    def test_nothing_is_done_when_a_later_edit_does_not_fit(self):
        before = repr(self.book)
        with self.assertRaises(EditError):
            apply_edits(self.book, [("unrule", 1), ("unrule", 1)])
        self.assertEqual(repr(self.book), before)


class BackTest(unittest.TestCase):
    def check_back(self, book, edit, wanted):
        self.assertEqual(check_pure(self, back_from, book, edit), wanted)
        behind = apply_edit(book, edit)
        back = apply_edits(behind, wanted)
        if edit[0] == "grant":
            area, functions, to, by, _ = edit[1]
            self.assertEqual(back, book[:5] + (book[5] + [(area, functions, to, by, True)],))
        else:
            self.assertEqual(back, book)

    def test_cells(self):
        book = apply_edit(empty_book(2), ("cell", A1, "=1", 1))
        self.check_back(book, ("cell", A1, "7", 0), [("cell", A1, "=1", 1)])
        self.check_back(book, ("cell", A1, "", None), [("cell", A1, "=1", 1)])
        self.check_back(book, ("cell", B1, "7", 0), [("cell", B1, "", None)])

    def test_rules(self):
        other = (SMALL, [1], [], [])
        book = apply_edits(empty_book(2), [("rule", 1, RULE), ("rule", 2, other), ("rule", 3, RULE)])
        self.check_back(book, ("rule", 4, other), [("unrule", 4)])
        self.check_back(book, ("rule", 2, RULE), [("rule", 2, other)])
        self.check_back(book, ("rule", 0, WHOLE), [("rule", 0, book[4][0])])
        self.check_back(book, ("unrule", 1), [("rule", 1, RULE), ("rule", 2, other), ("rule", 3, RULE)])
        self.check_back(book, ("unrule", 3), [("rule", 3, RULE)])

    def test_grants(self):
        book = apply_edits(empty_book(2), [("grant", GRANT), ("grant", GRANT), ("revoke", 1, True)])
        self.check_back(book, ("grant", GRANT), [("revoke", 2, True)])
        self.check_back(book, ("revoke", 0, True), [("revoke", 0, False)])
        self.check_back(book, ("revoke", 1, False), [("revoke", 1, True)])

    def test_random_edits(self):
        source = source_of(103)
        for _ in range(300):
            book = random_book(source, source.randrange(8))
            edit = fitting_edit(source, book)
            self.check_back(book, edit, back_from(book, edit))


class DifferenceTest(unittest.TestCase):
    def test_equal_books(self):
        book = random_book(source_of(1), 20)
        self.assertEqual(check_pure(self, difference, book, book), [])

    def test_cells_row_by_row(self):
        one = apply_edits(empty_book(2), [("cell", A2, "1", 0), ("cell", A1, "2", 0), ("cell", (5, 5), "3", 1)])
        other = apply_edits(empty_book(2), [("cell", A2, "1", 1), ("cell", B1, "9", 1), ("cell", (5, 5), "3", 1)])
        wanted = [("cell", A1, "", None), ("cell", B1, "9", 1), ("cell", A2, "1", 1)]
        self.assertEqual(difference(one, other), wanted)
        self.assertEqual(apply_edits(one, wanted), other)

    def test_rules(self):
        few = apply_edits(empty_book(2), [("rule", 1, RULE)])
        many = apply_edits(empty_book(2), [("rule", 0, WHOLE), ("rule", 1, RULE), ("rule", 2, RULE), ("rule", 3, RULE)])
        self.assertEqual(difference(few, many), [("rule", 0, WHOLE), ("rule", 2, RULE), ("rule", 3, RULE)])
        self.assertEqual(difference(many, few), [("rule", 0, empty_book(2)[4][0]), ("unrule", 3), ("unrule", 2)])

    def test_grants(self):
        one = apply_edits(empty_book(2), [("grant", GRANT), ("grant", GRANT), ("revoke", 1, True), ("grant", GRANT)])
        other = one[:5] + ([REVOKED, GRANT, GRANT, GRANT, REVOKED, GRANT],)
        wanted = [("revoke", 0, True), ("revoke", 1, False), ("grant", GRANT), ("grant", GRANT), ("revoke", 4, True),
                  ("grant", GRANT)]
        self.assertEqual(check_pure(self, difference, one, other), wanted)
        self.assertEqual(apply_edits(one, wanted), other)

    def test_order_of_the_kinds(self):
        other = apply_edits(empty_book(2), [("grant", GRANT), ("rule", 1, RULE), ("cell", A1, "1", 0)])
        self.assertEqual(difference(empty_book(2), other), [("cell", A1, "1", 0), ("rule", 1, RULE), ("grant", GRANT)])

    def test_random_books(self):
        source = source_of(104)
        for _ in range(200):
            one = random_book(source, source.randrange(10))
            other = one
            for _ in range(source.randrange(10)):
                other = apply_edit(other, fitting_edit(source, other))
            edits = check_pure(self, difference, one, other)
            self.assertEqual(apply_edits(one, edits), other)

    def test_random_edits_are_pure_or_told(self):
        source = source_of(102)
        for _ in range(500):
            book = random_book(source, 4)
            edit = random_edit(source, book)
            before = repr((book, edit))
            try:
                check_pure(self, apply_edit, book, edit)
            except EditError as error:
                self.assertIn(error.place, ["cell", "user", "text", "rule", "grant"])
            self.assertEqual(repr((book, edit)), before)


if __name__ == "__main__":
    unittest.main()
