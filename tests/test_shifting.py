"""Points 17 to 20, with points 11 and 12."""

import unittest

from labelgrid.addresses import SHEET, cells_of
from labelgrid.denoting import denote
from labelgrid.edits import apply_edit, empty_book
from labelgrid.entries import parse_entry
from labelgrid.errors import EditError, GridError
from labelgrid.shifting import Shift, deleted, inserted
from labelgrid.trees import parse_formula, show_formula
from tests import spelled
from tests.helpers import area_of, at, check_pure, random_range, random_tree, small_book, source_of

A1, B2 = (0, 0), (1, 1)


def book_of(entries, rules=(), grants=()):
    first = (SHEET, [0, 1], [0, 1], [0, 1])
    entries = {at(name): entries[name] for name in entries}
    return ("book", 2, entries, {address: address[0] % 2 for address in entries}, [first] + list(rules), list(grants))


def grant(text, revoked=False):
    return (area_of(text), ["RSUM"], [1], 0, revoked)


class Told(unittest.TestCase):
    def told(self, place, doing, *args):
        before = repr(args)
        with self.assertRaises(EditError) as caught:
            doing(*args)
        self.assertEqual((caught.exception.place, repr(args)), (place, before))


class AddressTest(unittest.TestCase):
    def check(self, shift, table):
        for text, wanted in table.items():
            self.assertEqual(shift.address(at(text)), wanted and at(wanted), text)

    def test_inserted_columns(self):
        self.check(Shift(True, "column", 2, 3), {"A1": "A1", "B99": "B99", "C1": "F1", "D7": "G7", "W5": "Z5", "X5": None,
                                                "Z1": None})

    def test_inserted_rows(self):
        self.check(Shift(True, "row", 2, 3), {"A1": "A1", "Z2": "Z2", "C3": "C6", "D4": "D7", "W96": "W99", "W97": None,
                                             "A99": None})

    def test_deleted_columns(self):
        self.check(Shift(False, "column", 2, 3), {"A1": "A1", "B9": "B9", "C1": None, "D1": None, "E1": None, "F1": "C1",
                                                 "Z99": "W99"})

    def test_deleted_rows(self):
        self.check(Shift(False, "row", 2, 3), {"A1": "A1", "C2": "C2", "A3": None, "A5": None, "A6": "A3", "Z99": "Z96"})

    def test_in_front_of_all_and_all_taken_away(self):
        self.check(Shift(True, "column", 0, 1), {"A1": "B1", "Y1": "Z1", "Z1": None})
        self.check(Shift(False, "row", 0, 99), {"A1": None, "Z99": None})
        self.check(Shift(True, "row", 98, 1), {"A98": "A98", "A99": None})
        self.check(Shift(False, "column", 25, 1), {"Y1": "Y1", "Z1": None})


class AreaTest(unittest.TestCase):
    def check(self, shift, table):
        for text, wanted in table.items():
            self.assertEqual(shift.area(area_of(text)), wanted and area_of(wanted), text)

    def test_inserted(self):
        self.check(Shift(True, "column", 2, 3), {"A1:B9": "A1:B9", "A1:C9": "A1:F9", "B1:D9": "B1:G9", "C1:C1": "F1:F1",
                                                "D1:W9": "G1:Z9", "D1:X9": "G1:Z9", "A1:Z99": "A1:Z99", "X1:Z9": None,
                                                "W1:Z9": "Z1:Z9"})
        self.check(Shift(True, "row", 2, 3), {"A1:B2": "A1:B2", "A1:C3": "A1:C6", "A2:C4": "A2:C7", "A3:A3": "A6:A6",
                                             "A4:A96": "A7:A99", "A4:A97": "A7:A99", "A97:B99": None, "A96:B99": "A99:B99"})

    def test_deleted(self):
        self.check(Shift(False, "column", 2, 3), {"A1:B9": "A1:B9", "A1:C9": "A1:B9", "A1:D9": "A1:B9", "A1:E9": "A1:B9",
                                                 "A1:F9": "A1:C9", "C1:E9": None, "D1:D9": None, "D1:F9": "C1:C9", "C1:G2": "C1:D2",
                                                 "F1:G9": "C1:D9", "B3:Z9": "B3:W9"})
        self.check(Shift(False, "row", 2, 3), {"A1:B2": "A1:B2", "A1:B3": "A1:B2", "A1:B5": "A1:B2", "A1:B6": "A1:B3", "A3:B5": None,
                                              "A4:B4": None, "A4:B7": "A3:B4", "A6:B7": "A3:B4", "A1:Z99": "A1:Z96"})

    def test_ranges_become_what_their_addresses_become(self):
        source = source_of(17)
        for _ in range(200):
            grows, kind = source.random() < 0.5, source.choice(["column", "row"])
            end = 26 if kind == "column" else 99
            start = source.randrange(end)
            shift = Shift(grows, kind, start, source.randrange(1, end - start + 1))
            place = random_range(source)
            made = shift.area(place)
            goals = {shift.address(cell) for cell in cells_of(place)} - {None}
            if grows and made is not None:
                self.assertEqual(made[0], shift.address(place[0]))
                self.assertTrue(goals <= set(cells_of(made)))
            elif made is not None:
                self.assertEqual(goals, set(cells_of(made)))
            else:
                self.assertEqual(goals, set())


class TreeTest(Told):
    def check(self, shift, table):
        for text, wanted in table.items():
            tree = check_pure(self, shift.tree, parse_formula(text, 0))
            self.assertEqual(show_formula(tree), wanted, text)

    def test_inserted(self):
        self.check(Shift(True, "row", 2, 2), {"A1 + A3": "A1 + A5", "SUM(A1:A3, B3, B3:C4)": "SUM(A1:A5, B5, B5:C6)", "-C3": "-C5",
                                              "RSUM(A2:A97)": "RSUM(A2:A99)", "1": "1", '"A3"': '"A3"', "#REF + A2": "#REF + A2",
                                              "IF(A3 < 2, A3, RMAX(A3))": "IF(A5 < 2, A5, RMAX(A5))"})

    def test_deleted(self):
        self.check(Shift(False, "column", 1, 2), {"A1 + B1": "A1 + #REF", "SUM(C1:C2)": "SUM(#REF)",
                                                  "SUM(A1:B2, C1:D2)": "SUM(A1:A2, B1:B2)", "RSUM(B1:C9)": "RSUM(#REF)",
                                                  "RSUM(C1)": "RSUM(#REF)", "-B1": "-#REF", "D1": "B1",
                                                  "AND(A1:Z99)": "AND(A1:X99)"})

    def test_what_leaves_the_sheet(self):
        shift = Shift(True, "row", 2, 2)
        for text in ["A98", "A99 + 1", "SUM(A1:A98)", "SUM(A1:Z99)", "1 + RSUM(A98:B98)", "IF(TRUE, 1, Z99)", "RMIN(A98)"]:
            self.told("sheet", shift.tree, parse_formula(text, 0))
        self.check(Shift(False, "row", 2, 2), {"A98": "A96", "SUM(A1:A98)": "SUM(A1:A96)"})
        self.assertTrue(issubclass(EditError, GridError))

    def test_long_sums(self):
        text = " + ".join(["A1"] * 100)
        self.check(Shift(True, "row", 0, 1), {text: text.replace("A1", "A2")})


class EntryTest(Told):
    def test_examples(self):
        book = apply_edit(empty_book(1), ("cell", (0, 1), "=SUM(A1:A3) + B9", 0))
        self.assertEqual(check_pure(self, inserted, book, "row", 1, 2)[2], {(0, 3): "=SUM(A1:A5) + B11"})
        self.assertEqual(check_pure(self, deleted, book, "row", 8, 1)[2], {(0, 1): "=SUM(A1:A3) + #REF"})

    def check(self, doing, kind, start, count, entries, wanted):
        book = book_of(entries)
        made = check_pure(self, doing, book, kind, start, count)
        self.assertEqual(made[2], {at(name): wanted[name] for name in wanted})
        self.assertEqual(list(made[3]), list(made[2]))

    def test_entries_that_stay_the_same_text(self):
        entries = {"A1": "=(A2)*( 2.50 )", "B1": "'C7", "C1": "text", "D1": "1.50", "E1": '="C7"&  1', "F1": "= B2"}
        self.check(inserted, "row", 5, 4, entries, entries)
        self.check(deleted, "row", 5, 4, entries, entries)
        self.check(deleted, "column", 20, 6, entries, entries)

    def test_entries_that_move_and_stay_the_same_text(self):
        entries = {"A9": "=( A2 )", "B1": "A9", "C9": "'=A9", "D9": "2.0", "E9": "=#REF"}
        self.check(inserted, "row", 5, 4, entries,
                   {"A13": "=( A2 )", "B1": "A9", "C13": "'=A9", "D13": "2.0", "E13": "=#REF"})

    def test_entries_that_become_another_text(self):
        self.check(inserted, "column", 1, 1, {"A1": "=(B1)*( 2 )", "B1": "=A1 +B1", "C3": "=SUM(A1:C3,  B2)"},
                   {"A1": "=C1 * 2", "C1": "=A1 + C1", "D3": "=SUM(A1:D3, C2)"})
        self.check(deleted, "column", 1, 1, {"A1": "=(B1)*( 2 )", "B1": "=A1 +B1", "C3": "=SUM(A1:C3,  B2)"},
                   {"A1": "=#REF * 2", "B3": "=SUM(A1:B3, #REF)"})

    def test_authors_go_with_their_entries(self):
        book = book_of({"A1": "1", "B1": "2", "C1": "3"})
        self.assertEqual(inserted(book, "column", 1, 2)[3], {at("A1"): 0, at("D1"): 1, at("E1"): 0})
        self.assertEqual(deleted(book, "column", 1, 1)[3], {at("A1"): 0, at("B1"): 0})
        self.assertEqual(inserted(book, "column", 1, 2)[:2], ("book", 2))

    def test_an_entry_that_would_leave_the_sheet(self):
        for name, kind, count in [("Z1", "column", 1), ("X5", "column", 3), ("A99", "row", 1), ("B95", "row", 5)]:
            self.told("sheet", inserted, book_of({"A1": "1", name: "2"}), kind, 1, count)
        self.check(inserted, "column", 1, 3, {"W5": "2"}, {"Z5": "2"})
        self.check(inserted, "row", 98, 1, {"B98": "2"}, {"B98": "2"})

    def test_an_address_or_range_that_would_leave_the_sheet(self):
        for text in ["=Z1", "=SUM(A1:Z1)", "=RSUM(Y1:Z2)", "=IF(TRUE,1,2+Z9)", "=SUM(A1:Z99)"]:
            self.told("sheet", inserted, book_of({"A1": "1", "B1": text}), "column", 1, 1)
            inserted(book_of({"A1": "1", "B1": text.replace("99", "9")}), "row", 1, 1)
        self.check(inserted, "column", 0, 1, {"A1": "'=Z1", "B1": "=A1"}, {"B1": "'=Z1", "C1": "=B1"})

    def test_an_entry_of_400_and_401_characters(self):
        last = "=" + " + ".join(["A9"] * 66 + ["11"])
        longer = last.replace("A9", "A10") + "1"
        self.assertEqual(len(longer), 400)
        self.check(inserted, "row", 5, 1, {"A1": last + "1"}, {"A1": longer})
        self.assertEqual(parse_entry(longer)[0], "formula")
        self.told("text", inserted, book_of({"A1": last + "11"}), "row", 5, 1)
        # Deleting makes texts longer, too: #REF has more characters than A9.
        self.told("text", deleted, book_of({"A1": last}), "row", 8, 1)
        self.check(deleted, "row", 8, 1, {"A9": last, "B1": "1"}, {"B1": "1"})

    def test_a_long_entry_that_stays(self):
        text = "=" + "+".join(["A2"] * 133)
        self.assertEqual(len(text), 399)
        self.check(inserted, "row", 5, 1, {"A1": text}, {"A1": text})
        self.told("text", inserted, book_of({"A1": text}), "row", 1, 1)

    def test_entries_can_be_read_and_are_shown(self):
        source = source_of(18)
        for _ in range(300):
            text = "=" + show_formula(random_tree(source, 3))
            book = book_of({"A1": text})
            for doing in (inserted, deleted):
                kind = source.choice(["column", "row"])
                start, count = source.randrange(1, 20), source.randrange(1, 5)
                try:
                    made = check_pure(self, doing, book, kind, start, count)
                except EditError as error:
                    self.assertEqual((error.place, doing), ("sheet", inserted))
                    continue
                tree = Shift(doing is inserted, kind, start, count).tree(parse_entry(text)[1])
                self.assertEqual(parse_entry(made[2][A1]), ("formula", tree))


class RuleTest(unittest.TestCase):
    def check(self, doing, kind, start, count, table):
        rules = [(area_of(text), [0], [1], []) for text in table]
        made = check_pure(self, doing, book_of({}, rules), kind, start, count)[4]
        self.assertEqual(made[0], (SHEET, [0, 1], [0, 1], [0, 1]))
        self.assertEqual(made[1:], [(area_of(text), [0], [1], []) for text in table.values() if text is not None])

    def test_inserted(self):
        self.check(inserted, "column", 2, 3, {"A1:B2": "A1:B2", "A1:C1": "A1:F1", "C1:D2": "F1:G2", "A1:Z99": "A1:Z99",
                                              "W1:X2": "Z1:Z2", "X1:Z9": None, "Y1:Z2": None})
        self.check(inserted, "row", 2, 3, {"A1:B2": "A1:B2", "A1:C3": "A1:C6", "A99:B99": None, "A95:B97": "A98:B99"})

    def test_deleted(self):
        self.check(deleted, "column", 2, 3, {"A1:B2": "A1:B2", "A1:D1": "A1:B1", "C1:E2": None, "D1:G2": "C1:D2",
                                             "A1:Z99": "A1:W99"})
        self.check(deleted, "row", 0, 98, {"A1:Z99": "A1:Z1", "A1:A98": None, "C99:C99": "C1:C1"})

    def test_each_address_has_its_rule_where_it_goes(self):
        source = source_of(20)
        for _ in range(60):
            book = small_book(source, 6, 6)
            start, count, kind = source.randrange(6), source.randrange(1, 4), source.choice(["column", "row"])
            shift = Shift(True, kind, start, count)
            made = inserted(book, kind, start, count)
            for cell in cells_of(((0, 0), (8, 8))):
                self.assertEqual(spelled.rule_of(made, shift.address(cell))[1:], spelled.rule_of(book, cell)[1:])


class GrantTest(Told):
    def check(self, doing, kind, start, count, table):
        grants = [grant(text) for text in table]
        made = check_pure(self, doing, book_of({}, (), grants + [grant("A1:A1", True)]), kind, start, count)[5]
        self.assertEqual(made[:-1], [grant(text, revoked) for text, revoked in table.values() if text is not None])
        self.assertEqual(made[-1], grant("A1:A1", True))

    def test_inserted(self):
        self.check(inserted, "column", 2, 3, {"A1:B2": ("A1:B2", False), "A1:C1": ("A1:F1", False), "C1:D2": ("F1:G2", False),
                                              "W1:W2": ("Z1:Z2", False)})

    def test_a_grant_that_would_leave_the_sheet(self):
        for text in ["X1:X1", "A1:Z99", "W1:X9", "Z1:Z1"]:
            for revoked in (False, True):
                self.told("sheet", inserted, book_of({}, (), [grant("A1:A1"), grant(text, revoked)]), "column", 2, 3)

    def test_deleted(self):
        self.check(deleted, "row", 2, 3, {"A1:B2": ("A1:B2", False), "A1:B3": ("A1:B2", True), "A3:A5": (None, None),
                                          "A4:A4": (None, None), "A5:A7": ("A3:A4", True), "B6:B7": ("B3:B4", False),
                                          "A1:Z99": ("A1:Z96", True)})

    def test_a_revoked_grant_stays_revoked(self):
        book = book_of({}, (), [grant("A1:A9", True), grant("A3:A3", True)])
        self.assertEqual(deleted(book, "row", 2, 1)[5], [grant("A1:A8", True)])
        self.assertEqual(inserted(book, "row", 2, 1)[5], [grant("A1:A10", True), grant("A4:A4", True)])


class MeaningTest(unittest.TestCase):
    def test_equal_ranges_stay_equal_and_others_differ(self):
        source = source_of(5)
        for _ in range(500):
            one, other = random_range(source, 6, 6), random_range(source, 6, 6)
            shift = Shift(True, source.choice(["column", "row"]), source.randrange(7), source.randrange(1, 9))
            self.assertEqual(shift.area(one) == shift.area(other), one == other)

    def test_values_behind_an_insertion(self):
        source = source_of(19)
        for _ in range(150):
            book = small_book(source, 5, 5)
            kind, start, count = source.choice(["column", "row"]), source.randrange(7), source.randrange(1, 9)
            made = check_pure(self, inserted, book, kind, start, count)
            shift = Shift(True, kind, start, count)
            wanted = denote(book[2])
            self.assertEqual(denote(made[2]), {shift.address(cell): wanted[cell] for cell in wanted})

    def test_formulas_that_lose_nothing_behind_a_deletion(self):
        source = source_of(21)
        kept = 0
        for _ in range(300):
            book = small_book(source, 5, 5)
            kind, start, count = source.choice(["column", "row"]), source.randrange(6), source.randrange(1, 3)
            made = check_pure(self, deleted, book, kind, start, count)
            shift = Shift(False, kind, start, count)
            values, goals = denote(book[2]), denote(made[2])
            for cell, edges in spelled.edges_of(book[2]).items():
                goal = shift.address(cell)
                # What is used is kept whole, and so is all behind it.
                behind = edges | spelled.reached(spelled.edges_of(book[2]), cell)
                if goal is not None and all(shift.address(other) is not None for other in behind):
                    kept += 1
                    self.assertEqual(goals.get(goal), values.get(cell))
        self.assertGreater(kept, 100)


if __name__ == "__main__":
    unittest.main()
