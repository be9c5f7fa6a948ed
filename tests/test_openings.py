"""Points 71 to 74."""

import unittest

from labelgrid.addresses import SHEET, cells_of, show_address, show_range
from labelgrid.flow import sees
from labelgrid.openings import opening, opening_right, seen_if
from tests import spelled
from tests.helpers import all_at, at, book_of, check_pure, grant_of, small_book, source_of

SECRET = [("B1:B9", [0])]
RELEASE = grant_of("B1:B2")


def calls(text):
    """The calls of a text like "A1.0 A2.1"."""
    return [(at(name), int(node)) for name, node in [part.split(".") for part in text.split()]]


def way(text):
    """The pairs of a text like "A1 A2.1 B1", in which an address alone has None."""
    parts = [part.partition(".") for part in text.split()]
    return [(at(name), int(node) if node else None) for name, _, node in parts]


def layered(source, columns, rows):
    """A book of rows of formulas that use the row below, the last one of which only the user 0 may read."""
    entries = {}
    for row in range(rows):
        for column in range(columns):
            parts = []
            for _ in range(source.randrange(1, 3)):
                left = source.randrange(columns)
                right = min(columns - 1, left + source.randrange(2))
                below = row + 1 if source.random() < 0.9 else source.randrange(rows + 1)
                text = show_range(((left, below), (right, below)))
                parts.append(f"{source.choice(['RSUM', 'RMAX', 'RSUM', 'SUM'])}({text})")
            entries[show_address((column, row))] = "=" + "+".join(parts)
    return book_of(entries, [(f"A{rows + 1}:Z99", [0])], users=2)


class OpeningTest(unittest.TestCase):
    def check(self, book, table, user=1):
        """Each address has its calls, if there is only one choice of them, or their number, or None."""
        for name, wanted in table.items():
            found = check_pure(self, opening, book, user, at(name))
            if wanted is None:
                self.assertIsNone(found, name)
                continue
            picked, ways = found
            self.assertEqual(picked if isinstance(wanted, str) else len(picked),
                             calls(wanted) if isinstance(wanted, str) else wanted, name)
            self.assertIs(check_pure(self, opening_right, book, user, at(name), picked, ways), True)
            self.assertIs(check_pure(self, seen_if, book, user, at(name), picked), True)

    def test_example(self):
        whole = ((0, 0), (25, 98))
        rules = [(whole, [0, 1], [0], [0]), (((1, 0), (1, 1)), [0], [0], [0])]
        entries = {(0, 0): "=A2+A3", (0, 1): "=RSUM(B1:B2)", (0, 2): "=A2*2", (0, 3): "=B1"}
        book = ("book", 2, entries, {cell: 0 for cell in entries}, rules, [])
        self.assertEqual(opening(book, 1, (0, 0)), ([((0, 1), 0)], [[((0, 0), None), ((0, 1), 0), ((1, 0), None)]]))
        self.assertEqual((opening(book, 1, (0, 3)), opening(book, 0, (0, 0))), (None, ([], [])))

    def test_addresses_that_are_seen(self):
        book = book_of({"A1": "=A2+RSUM(B1:B2)", "A3": "=RSUM(C1:C9)", "A4": "=RSUM(A4)", "A5": "7"}, SECRET, [RELEASE])
        self.check(book, {"A1": "", "A3": "", "A4": "", "A5": "", "A6": ""})
        self.assertEqual(opening(book, 1, at("A1")), ([], []))
        self.check(book, {"A1": "", "B1": ""}, 0)

    def test_addresses_that_no_calls_open(self):
        book = book_of({"A1": "=B1", "A2": "=RSUM(B1:B2)+B2", "A3": "=RSUM(B1:B2)+A1", "A4": "=SUM(B2:C3)", "A5": "=A5+A6",
                        "A6": "=A5+SUM(RSUM(C1),B9)", "B3": "=RSUM(B1)"}, SECRET)
        self.check(book, {name: None for name in "A1 A2 A3 A4 A5 A6 B3 B9".split()})

    def test_one_call_that_opens_several_ways(self):
        book = book_of({"A1": "=A2+A3+RSUM(A4:A5)", "A2": "=A6", "A3": "=A6+RMAX(A6)", "A4": "=A6", "A5": "=A6", "A6": "=RSUM(B1:B9)"}, SECRET)
        self.check(book, {"A1": "A6.0", "A2": "A6.0", "A6": "A6.0"})
        self.assertEqual(opening(book, 1, at("A2")), (calls("A6.0"), [way("A2 A6.0 B1")]))

    def test_ways_that_share_a_call(self):
        book = book_of({"A1": "=RSUM(A2:A4)+A5", "A2": "=RSUM(B1)", "A3": "=RSUM(B2)", "A4": "=RSUM(B3)", "A5": "=RMAX(B4)"}, SECRET)
        self.check(book, {"A1": "A1.0 A5.0"})
        book = book_of({"A1": "=A2+A3", "A2": "=RSUM(A4)", "A3": "=RSUM(A4)", "A4": "=RSUM(B1)+RSUM(B2)"}, SECRET)
        self.check(book, {"A1": 2})
        book = book_of({"A1": "=A2+A3+A4", "A2": "=RSUM(A5)", "A3": "=RSUM(A5)", "A4": "=RSUM(A5)", "A5": "=RSUM(B1)+RSUM(B2)"}, SECRET)
        self.check(book, {"A1": "A5.0 A5.1"})

    def test_a_use_by_itself_and_in_a_call(self):
        book = book_of({"A1": "=A2+RSUM(A2)", "A2": "=RSUM(B1)", "A3": "=RSUM(A1:A2)+A2*RMAX(A1:B1)"}, SECRET)
        self.check(book, {"A1": "A2.0", "A3": "A2.0 A3.1"})
        # Only the use in the call leads to what may not be read.
        self.check(book_of({"A1": "=A2+RSUM(A2:B2)", "A2": "5"}, SECRET), {"A1": "A1.0"})

    def test_calls_that_are_released_already(self):
        book = book_of({"A1": "=RSUM(B1:B2)+RMAX(B1:B2)", "A2": "=RSUM(B1:B2)", "A3": "=A1+RSUM(A2)", "A4": "=A2+RSUM(B1:B3)"}, SECRET, [RELEASE])
        self.check(book, {"A1": "A1.1", "A2": "", "A3": "A1.1", "A4": "A4.0"})
        self.check(book, {"A1": "A1.0 A1.1", "A2": "A2.0", "A3": 3}, 2)

    def test_numbers_of_calls(self):
        book = book_of({"A1": "=SUM(RSUM(C1),RMAX(B1),1)+IF(TRUE,1,RMIN(B2))", "A2": '=JOIN("x",RSUM(A1))'}, SECRET)
        self.check(book, {"A1": "A1.2 A1.4", "A2": "A2.1"})

    def test_formulas_that_may_not_be_read(self):
        # Ways end at B1, although its formula uses more.
        book = book_of({"A1": "=RSUM(B1)", "B1": "=RSUM(B2)+A1", "B2": "=B1"}, SECRET)
        self.assertEqual(opening(book, 1, at("A1")), (calls("A1.0"), [way("A1.0 B1")]))

    def test_circles(self):
        book = book_of({"A1": "=A2", "A2": "=A1+RSUM(A2:A3)", "A3": "=A2+RSUM(B1)", "A4": "=RSUM(A4:B4)"}, SECRET)
        self.check(book, {"A1": 1, "A3": "A3.0", "A4": "A4.0"})

    def test_choices_in_rows(self):
        book = book_of({"A1": "=SUM(C1:E1)", "C1": "=RSUM(C2:D2)", "D1": "=RSUM(D2:E2)", "E1": "=RSUM(E2)+RSUM(F2)",
                        "C2": "=RSUM(B1)", "D2": "=RSUM(B2)", "E2": "=RSUM(B3)", "F2": "=RSUM(B4)"}, SECRET)
        self.check(book, {"A1": 4, "C1": "C1.0", "E1": 2})
        book = book_of({"A1": "=SUM(C1:F1)", "C1": "=RSUM(C2)", "D1": "=RSUM(C2)+RSUM(D2)", "E1": "=RSUM(D2)", "F1": "=RSUM(D2:F2)",
                        "C2": "=RSUM(B1)", "D2": "=RSUM(B2)"}, SECRET)
        self.check(book, {"A1": "C2.0 D2.0"})

    def test_the_fewest_against_all_choices(self):
        source = source_of(73)
        counts = {}
        for _ in range(150):
            book = layered(source, source.randrange(2, 4), source.randrange(2, 4))
            for name in ("A1", "B1"):
                fewest = spelled.fewest_calls(book, 1, at(name), 3)
                found = opening(book, 1, at(name))
                self.assertEqual(None if found is None else min(len(found[0]), 4), fewest)
                if found is not None:
                    self.assertTrue(all(spelled.is_step_way(book, 1, at(name), steps) for steps in found[1]))
                    self.assertTrue(opening_right(book, 1, at(name), found[0], found[1]))
                counts[fewest] = True
        self.assertTrue({None, 1, 2, 3} <= set(counts))

    def test_made_up_books(self):
        source = source_of(74)
        for _ in range(60):
            book = small_book(source, 4, 4, 3, 20)
            for cell in source.sample(cells_of(((0, 0), (3, 3))), 5):
                found = check_pure(self, opening, book, 1, cell)
                every = [call[:2] for call in spelled.calls_of(book)]
                self.assertEqual(found is None, not spelled.seen_if(book, 1, cell, every))
                self.assertEqual(found == ([], []), sees(book, 1, cell))
                if found is not None:
                    self.assertEqual(found[0], sorted(found[0], key=lambda call: (call[0][1], call[0][0], call[1])))
                    self.assertTrue(opening_right(book, 1, cell, found[0], found[1]))

    def test_great_books(self):
        cells = cells_of(SHEET)
        entries = {show_address(cell): "=RSUM(Z99:Z99)" for cell in cells[1:-1]}
        entries["A1"] = "=SUM(B1:Z1,A2:Z98)"
        book = book_of(entries, [("Z99:Z99", [0])])
        self.check(book, {"A1": 2547, "A99": 1})
        names = [show_address(cell) for cell in cells]
        chain = {name: f"={names[place + 1]}+RSUM({names[place + 2]})" for place, name in enumerate(names[:-2])}
        chain[names[-3]] = "=RSUM(Z99)"
        self.check(book_of(chain, [("Z99:Z99", [0])]), {"A1": f"{names[-3]}.0"})


class AcceptedTest(unittest.TestCase):
    BOOK = book_of({"A1": "=A2+RSUM(A3:B3)+RMAX(B1:B2)", "A2": "=RSUM(B1)+RMIN(A1:A2)", "A3": "=A1", "A4": "=RSUM(B1:B2)+A1",
                    "A5": "=RSUM(A5:B5)", "A6": "=RSUM(B1)+A7", "A7": "=RSUM(B1)", "A8": "=RSUM(A7)+RMAX(A7)", "A9": "=B1"},
                   SECRET, [grant_of("B1:B2", ["RMAX"])])

    def accepted(self, name, picked, *ways, user=1):
        return check_pure(self, opening_right, self.BOOK, user, at(name), calls(picked), [way(steps) for steps in ways])

    def test_openings_that_are_accepted(self):
        self.assertIs(self.accepted("A6", "A6.0 A7.0", "A6.0 B1", "A6 A7.0 B1"), True)
        self.assertIs(self.accepted("A6", "A7.0 A6.0", "A6 A7.0 B1", "A6.0 B1"), True)
        self.assertIs(self.accepted("A8", "A7.0", "A8.0 A7.0 B1"), True)
        self.assertIs(self.accepted("A8", "A7.0", "A8.1 A7.0 B1"), True)
        self.assertIs(self.accepted("A5", "A5.0", "A5.0 B5"), True)
        self.assertIs(self.accepted("A1", "A1.0 A2.0", "A1 A2.1 A1.0 B3", "A1 A2.0 B1"), True)
        # A way may use an address several times, if its calls are different.
        self.assertIs(self.accepted("A1", "A1.0 A2.0", "A1.0 A3 A1 A2.0 B1", "A1 A2.1 A2 "), False)
        self.assertIs(self.accepted("C9", ""), True)
        self.assertIs(self.accepted("A6", "", user=0), True)

    def test_a_call_too_many_or_too_few(self):
        self.assertIs(self.accepted("A6", "A6.0", "A6.0 B1"), False)
        self.assertIs(self.accepted("A6", "A6.0 A7.0", "A6.0 B1"), False)
        self.assertIs(self.accepted("A6", "A6.0", "A6.0 B1", "A6 A7.0 B1"), False)
        self.assertIs(self.accepted("A8", "A8.0 A8.1", "A8.0 A7.0 B1", "A8.1 A7.0 B1"), False)
        self.assertIs(self.accepted("A8", "A8.0 A7.0", "A8.1 A7.0 B1"), False)
        self.assertIs(self.accepted("A6", ""), False)
        self.assertIs(self.accepted("A9", ""), False)
        self.assertIs(self.accepted("A9", "", "A9 B1"), False)
        self.assertIs(self.accepted("A9", "A7.0", "A9 B1"), False)
        self.assertIs(self.accepted("C9", "A6.0"), False)
        self.assertIs(self.accepted("A6", "A6.0 A7.0 A8.0", "A6.0 B1", "A6 A7.0 B1", "A6.0 B1"), False)

    def test_calls_that_are_not_enough(self):
        self.assertIs(self.accepted("A6", "A6.0 A8.0", "A6.0 B1", "A6 A7.0 B1"), False)
        self.assertIs(self.accepted("A6", "A6.0 A7.1", "A6.0 B1", "A6 A7.0 B1"), False)
        self.assertIs(self.accepted("B1", "A6.0", "B1"), False)

    def test_a_call_twice(self):
        self.assertIs(self.accepted("A5", "A5.0", "A5.0 A5.0 B5"), False)
        self.assertIs(self.accepted("A6", "A6.0 A7.0", "A6 A7.0 B1", "A6 A7.0 B1"), False)
        self.assertIs(self.accepted("A8", "A8.0 A8.1", "A8.0 A7.0 B1", "A8.0 A7.0 B1"), False)
        self.assertIs(self.accepted("A1", "A1.0 A2.0", "A1.0 A3 A1.0 B3", "A1 A2.0 B1"), False)

    def test_lists_that_are_no_step_ways(self):
        right = "A6.0 B1"
        for steps in ["", "A6", "A7.0 B1", "A6 A7 B1", "A6.0 A7.0 B1", "A6 A7.0 B2", "A6 A7.0 B1.0", "A6 A7.1 B1", "A6 A7.0",
                      "B1", "A6 B1", "A6 A7.0 C1", "A6.1 A7.0 B1", "A6 A7.0 B1 B2", "A6 A6 A7.0 B1"]:
            self.assertIs(self.accepted("A6", "A6.0 A7.0", right, steps), False, steps)
        # RMAX(B1:B2) is released to the user 1.
        self.assertIs(self.accepted("A1", "A1.0 A2.0", "A1.1 B1", "A1 A2.0 B1"), False)
        self.assertIs(self.accepted("A1", "A1.0 A2.0", "A1.0 B3", "A1.1 B1"), False)
        self.assertIs(self.accepted("A1", "A1.0 A1.1 A2.0", "A1.0 B3", "A1.1 B1", "A1 A2.0 B1", user=2), True)

    def test_ways_through_what_may_not_be_read(self):
        book = book_of({"A1": "=RSUM(B1)", "B1": "=B2"}, SECRET)
        self.assertIs(opening_right(book, 1, at("A1"), calls("A1.0"), [way("A1.0 B1 B2")]), False)
        self.assertIs(opening_right(book, 1, at("A1"), calls("A1.0"), [way("A1.0 B1")]), True)

    def test_made_up_ways(self):
        source = source_of(75)
        for _ in range(60):
            book = layered(source, 3, 2)
            found = opening(book, 1, at("A1"))
            if found is None or not found[0]:
                continue
            for _ in range(15):
                ways = [list(steps) for steps in found[1]]
                steps = source.choice(ways)
                place = source.randrange(len(steps))
                steps[place] = (source.choice(all_at("A1 B1 A2 B2 A3 B3")), source.choice([None, 0, 1]))
                passed = [pair for steps in ways for pair in steps if pair[1] is not None]
                right = all(spelled.is_step_way(book, 1, at("A1"), steps) for steps in ways) and len(set(passed)) == len(passed)
                self.assertEqual(opening_right(book, 1, at("A1"), found[0], ways), right)


class SeenIfTest(unittest.TestCase):
    def test_made_up_calls(self):
        source = source_of(76)
        results = {}
        for _ in range(80):
            book = layered(source, 3, 2) if source.random() < 0.5 else small_book(source, 3, 3, 3, 20)
            listed = [call[:2] for call in spelled.calls_of(book)] + [(at("A1"), 9)]
            for _ in range(8):
                picked = [call for call in listed if source.random() < 0.6]
                found = check_pure(self, seen_if, book, 1, at("A1"), picked)
                self.assertIs(found, spelled.seen_if(book, 1, at("A1"), picked))
                results[found] = True
        self.assertEqual(len(results), 2)

    def test_calls_that_cannot_be_released(self):
        book = book_of({"A1": "=SUM(B1,RSUM(B2))"}, SECRET)
        self.assertIs(seen_if(book, 1, at("A1"), calls("A1.0 A1.1")), False)


if __name__ == "__main__":
    unittest.main()
