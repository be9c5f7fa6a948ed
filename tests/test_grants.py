"""Point 48, with point 40."""

import unittest

from labelgrid.addresses import SHEET, parse_address
from labelgrid.grants import calls_at, is_live, live_grants, released_calls, released_to, releasing
from labelgrid.trees import RELEASED
from tests import spelled
from tests.helpers import area_of, boxes_in, check_pure, small_book, source_of


RULES = [(SHEET, [0, 1, 2], [], [0, 1]), (area_of("B2:C3"), [0], [], [1]), (area_of("C3:D4"), [0], [], [0, 1, 2])]


def grant(text, functions=("RSUM",), to=(1, 2), by=1, revoked=False):
    return (area_of(text), list(functions), list(to), by, revoked)


class LiveTest(unittest.TestCase):
    def test_live(self):
        for text, by, live in [("A1:A9", 0, True), ("A1:A9", 1, True), ("A1:A9", 2, False), ("B2:B2", 0, False), ("A1:B2", 0, False),
                               ("A1:C3", 1, True), ("C3:D4", 2, True), ("C2:D4", 2, False), ("C2:D4", 1, True), ("A1:Z99", 1, True),
                               ("A1:Z99", 0, False)]:
            self.assertIs(check_pure(self, is_live, RULES, grant(text, by=by)), live, (text, by))
            self.assertIs(check_pure(self, is_live, RULES, grant(text, by=by, revoked=True)), False)

    def test_the_giver_owns_the_range_no_more(self):
        given = grant("A1:A9")
        self.assertTrue(is_live(RULES, given))
        self.assertFalse(is_live(RULES + [(area_of("A9:B9"), [0], [], [0, 2])], given))
        self.assertTrue(is_live(RULES + [(area_of("A9:B9"), [0], [], [0, 2]), (area_of("A9:A9"), [], [], [1])], given))
        self.assertTrue(is_live(RULES + [(area_of("A10:A10"), [], [], [])], given))

    def test_live_grants(self):
        grants = [grant("A1:A9"), grant("A1:A9", revoked=True), grant("B2:B2", by=0), grant("C3:C3", by=2), grant("A1:A9")]
        self.assertEqual(check_pure(self, live_grants, RULES, grants), [0, 3, 4])
        self.assertEqual(live_grants(RULES, []), [])


class ReleasingTest(unittest.TestCase):
    GRANTS = [grant("A1:A9", ["RSUM", "RMAX"], [2]), grant("A1:A9", ["RMAX"], [0, 1]), grant("A1:A8", ["RSUM"], [0]),
              grant("A1:A9", ["RSUM"], [1], revoked=True), grant("A1:A9", ["RAVG", "RSUM"], [0, 2]), grant("A1:A9", ["RSUM"], [1], by=2),
              grant("A1:A1", ["RSUM"], [1]), grant("A1:A9", ["RMIN"], [])]

    def check(self, function, text, indexes, users):
        self.assertEqual(check_pure(self, releasing, RULES, self.GRANTS, function, area_of(text)), indexes)
        self.assertEqual(check_pure(self, released_to, RULES, self.GRANTS, function, area_of(text)), users)

    def test_ranges_and_functions(self):
        self.check("RSUM", "A1:A9", [0, 4], [0, 2])
        self.check("RMAX", "A1:A9", [0, 1], [0, 1, 2])
        self.check("RAVG", "A1:A9", [4], [0, 2])
        self.check("RCOUNT", "A1:A9", [], [])
        self.check("RSUM", "A1:A8", [2], [0])
        self.check("RSUM", "A1:A1", [6], [1])
        self.check("RSUM", "A1:A2", [], [])
        self.check("RSUM", "A1:B9", [], [])
        self.check("RMIN", "A1:A9", [7], [])


class CallsTest(unittest.TestCase):
    def check(self, text, wanted):
        entries = {(4, 4): text} if text else {}
        wanted = [(node, function, area_of(place)) for node, function, place in wanted]
        self.assertEqual(check_pure(self, calls_at, entries, (4, 4)), wanted, text)

    def test_calls_that_may_be_released(self):
        for text in ["", "5", "'=RSUM(A1)", "text", "=1", "=SUM(A1:A9)", "=A1", "=RSUM(#REF)"]:
            self.check(text, [])
        for name in RELEASED:
            self.check(f"={name}(A1:A9)", [(0, name, "A1:A9")])
        self.check("=RSUM(A1)", [(0, "RSUM", "A1:A1")])
        self.check("=RSUM(A1:A1)+RSUM(#REF)+RMAX((B2))", [(0, "RSUM", "A1:A1"), (2, "RMAX", "B2:B2")])
        self.check("=SUM(RSUM(A1:A9),IF(TRUE,1,RMIN(B1)))", [(1, "RSUM", "A1:A9"), (3, "RMIN", "B1:B1")])
        self.check("=RSUM(A1:A9)+RSUM(A1:A9)", [(0, "RSUM", "A1:A9"), (1, "RSUM", "A1:A9")])


class ReleasedCallsTest(unittest.TestCase):
    def book(self, entries, grants):
        entries = {parse_address(name): entries[name] for name in entries}
        return ("book", 3, entries, {cell: 0 for cell in entries}, RULES, grants)

    def check(self, entries, grants, wanted):
        wanted = [(parse_address(name), node, index, users) for name, node, index, users in wanted]
        self.assertEqual(check_pure(self, released_calls, self.book(entries, grants)), wanted)

    def test_order(self):
        grants = [grant("A1:A9"), grant("C3:C3", ["RMAX"], [0]), grant("A1:A9", ["RMAX", "RSUM"], [0, 1, 2])]
        entries = {"E2": "=RMAX(C3)", "D2": "=RSUM(A1:A9)+RMAX(A1:A9)", "F1": "=SUM(RSUM(A1:A9),RSUM(A1:A8),RMAX(C3:C3))", "A1": "7"}
        self.check(entries, grants, [("F1", 1, 0, [1, 2]), ("F1", 1, 2, [0, 1, 2]), ("F1", 3, 1, [0]), ("D2", 0, 0, [1, 2]),
                                     ("D2", 0, 2, [0, 1, 2]), ("D2", 1, 2, [0, 1, 2]), ("E2", 0, 1, [0])])

    def test_what_is_not_released(self):
        grants = [grant("A1:A9", revoked=True), grant("A1:A9", by=2), grant("A1:A8"), grant("A1:A9", ["RMAX"])]
        self.check({"D2": "=RSUM(A1:A9)", "D3": "=SUM(A1:A9)"}, grants, [])
        self.check({}, [grant("A1:A9")], [])
        self.check({"D2": "=RSUM(A1:A9)"}, [], [])

    def test_users_are_a_list_of_its_own(self):
        book = self.book({"D2": "=RSUM(A1:A9)", "D3": "=RSUM(A1:A9)"}, [grant("A1:A9")])
        found = released_calls(book)
        self.assertEqual([box for box in boxes_in(found) if box in boxes_in(book)], [])
        found[0][3].clear()
        self.assertEqual(found[1][3], [1, 2])

    def test_against_the_words_of_the_document(self):
        source = source_of(48)
        count = 0
        for _ in range(150):
            book = small_book(source, 4, 4)
            found = check_pure(self, released_calls, book)
            wanted = []
            for cell in spelled.row_by_row(spelled.formula_cells(book[2])):
                for place, node, function in sorted(spelled.uses(spelled.formula(book[2], cell)), key=lambda use: use[1] or 0):
                    for index, given in enumerate(book[5]):
                        if node is not None and given[0] == place and function in given[1] and spelled.is_live(book, given):
                            wanted.append((cell, node, index, given[2]))
            self.assertEqual(found, wanted)
            count += len(found)
            for cell, node, index, users in found:
                function, place = [call[1:] for call in calls_at(book[2], cell) if call[0] == node][0]
                self.assertIn(index, releasing(book[4], book[5], function, place))
                self.assertEqual([user for user in range(3) if spelled.is_released(book, user, function, place)],
                                 released_to(book[4], book[5], function, place))
        self.assertGreater(count, 100)


if __name__ == "__main__":
    unittest.main()
