"""Point 75."""

import copy
import unittest

from labelgrid.addresses import SHEET, cells_of
from labelgrid.kept import Kept
from labelgrid.sources import sources_of
from labelgrid.trust import trusted_sources
from tests import spelled
from tests.helpers import all_at, at, book_of, num, random_changes, small_book, source_of
from tests.test_trust import random_endorsements, vouch

EVERYBODY = [0, 1, 2]
OWNED = [("A1:Z99", EVERYBODY, EVERYBODY, EVERYBODY)]


class KeptTest(unittest.TestCase):
    def check(self, kept):
        """All sources are those from scratch."""
        for cell in kept.book[2]:
            self.assertEqual(kept.sources(cell), sources_of(kept.book, cell))
            self.assertEqual(kept.trusted_of(cell), trusted_sources(kept.book, kept.endorsements, cell))

    def enter(self, kept, entries, authors, names, again):
        """Go on with another book, where the entries at some addresses are looked at again."""
        book = book_of(entries, OWNED, authors=authors)
        before = copy.deepcopy((book, all_at(names)))
        addresses = all_at(names)
        self.assertEqual(kept.enter(book, addresses), all_at(again))
        self.assertEqual((book, addresses), before)
        self.assertEqual(kept.book, book)
        self.check(kept)

    def test_the_first_book(self):
        book = book_of({"A1": "=B1", "B1": "=C1", "C1": "4"}, OWNED, authors={"B1": 1, "C1": 2})
        kept = Kept(book, [vouch("B1", num(4), 1), vouch("C1", num(5), 0)])
        self.assertEqual((kept.sources(at("A1")), kept.trusted_of(at("A1"))), ([0, 1, 2], [0, 1]))
        self.assertEqual((kept.sources(at("C1")), kept.trusted_of(at("C1"))), ([2], [2]))
        self.assertEqual((kept.book, kept.endorsements), (book, [vouch("B1", num(4), 1), vouch("C1", num(5), 0)]))
        self.check(kept)

    def test_entries(self):
        entries = {"A1": "=B1+C1", "B1": "=D1", "D1": "1", "A2": "=A1", "A3": "=C1", "A4": "5"}
        kept = Kept(book_of(entries, OWNED), [])
        self.enter(kept, entries, {"D1": 1}, "D1", "A1 B1 D1 A2")
        entries["C1"] = "=D1"
        self.enter(kept, entries, {"D1": 1, "C1": 2}, "C1", "A1 C1 A2 A3")
        # B1 uses D1 no more, so what changes there does not count for it.
        entries["B1"] = "7"
        self.enter(kept, entries, {"D1": 1, "C1": 2}, "B1", "A1 B1 A2")
        entries["D1"] = "8"
        self.enter(kept, entries, {"D1": 0, "C1": 2}, "D1", "A1 C1 D1 A2 A3")

    def test_entries_that_are_removed(self):
        entries = {"A1": "=B1", "B1": "=C1", "C1": "1", "D1": "2"}
        kept = Kept(book_of(entries, OWNED, authors={"B1": 1, "C1": 2}), [])
        del entries["C1"]
        self.enter(kept, entries, {"B1": 1}, "C1", "A1 B1")
        del entries["B1"]
        self.enter(kept, entries, {}, "B1", "A1")
        self.enter(kept, entries, {}, "Z9", "")
        self.enter(kept, entries, {}, "", "")
        self.enter(kept, {}, {}, "A1 D1", "")

    def test_addresses_that_change_nothing(self):
        entries = {"A1": "=B1", "B1": "=C1", "C1": "1"}
        kept = Kept(book_of(entries, OWNED), [])
        self.enter(kept, entries, {}, "B1 B1", "A1 B1")
        self.enter(kept, entries, {}, "C1 A1", "A1 B1 C1")

    def test_formulas_that_come_to_use_other_cells(self):
        entries = {"A1": "=B1", "A2": "=A1", "B1": "1", "C1": "=C2"}
        kept = Kept(book_of(entries, OWNED, authors={"B1": 1, "C1": 2}), [])
        entries["A1"] = "=SUM(C1:C9)"
        self.enter(kept, entries, {"B1": 1, "C1": 2}, "A1", "A1 A2")
        self.enter(kept, dict(entries, C2="3"), {"B1": 1, "C1": 2, "C2": 1}, "C2", "A1 C1 A2 C2")

    def test_circles(self):
        entries = {"A1": "=B1", "B1": "=C1", "C1": "=A2", "A2": "5", "A3": "=A1"}
        kept = Kept(book_of(entries, OWNED, authors={"A2": 1}), [vouch("A1", num(5), 2)])
        entries["A2"] = "=A1"
        self.enter(kept, entries, {"A2": 1, "C1": 2}, "A2 C1", "A1 B1 C1 A2 A3")
        self.assertEqual(kept.trusted_of(at("A3")), [0, 1, 2])
        entries["C1"] = "6"
        self.enter(kept, entries, {"A2": 1}, "C1", "A1 B1 C1 A2 A3")
        self.enter(kept, dict(entries, C1="5"), {"A2": 1}, "C1", "A1 B1 C1 A2 A3")
        self.assertEqual(kept.trusted_of(at("A3")), [0, 2])

    def test_endorsements_that_hold_no_more(self):
        entries = {"A1": "=B1", "B1": "=C1*0", "C1": "1", "A2": "=B2"}
        kept = Kept(book_of(entries, OWNED, authors={"C1": 1}), [vouch("B1", num(0), 2), vouch("B2", None, 1)])
        self.assertEqual((kept.trusted_of(at("A1")), kept.trusted_of(at("A2"))), ([0, 2], [0, 1]))
        self.enter(kept, dict(entries, C1="2"), {"C1": 1}, "C1", "A1 B1 C1")
        self.assertEqual(kept.trusted_of(at("A1")), [0, 2])
        self.enter(kept, dict(entries, C1="x"), {"C1": 1}, "C1", "A1 B1 C1")
        self.assertEqual(kept.trusted_of(at("A1")), [0, 1])
        self.enter(kept, dict(entries, C1="x", B2="5"), {"C1": 1}, "B2", "A2 B2")
        self.assertEqual(kept.trusted_of(at("A2")), [0])

    def test_other_endorsements(self):
        book = book_of({"A1": "=B1", "B1": "=C1", "C1": "4", "A2": "=D1", "D1": "=C1"}, OWNED, authors={"C1": 1})
        kept = Kept(book, [])
        one, two, wrong, blank = vouch("B1", num(4), 2), vouch("D1", num(4), 0), vouch("D1", num(5), 1), vouch("E1", None, 2)
        for listed, again in [([one], "A1 B1"), ([one], ""), ([one, two], "D1 A2"), ([two, one, one], ""), ([two], "A1 B1"),
                              ([two, wrong], "D1 A2"), ([], "D1 A2"), ([blank], ""), ([vouch("C1", num(4), 2)], "A1 B1 C1 D1 A2"),
                              ([vouch("C1", num(4), 0)], "A1 B1 C1 D1 A2"), ([], "A1 B1 C1 D1 A2")]:
            passed = list(listed)
            self.assertEqual(kept.endorse(passed), all_at(again))
            self.assertEqual((passed, kept.endorsements), (listed, listed))
            self.check(kept)
            passed.append(one)
            self.assertEqual(kept.endorsements, listed)

    def test_what_is_returned_may_be_changed(self):
        listed = [vouch("B1", num(4), 2)]
        kept = Kept(book_of({"A1": "=B1", "B1": "=C1", "C1": "4"}, OWNED, authors={"C1": 1}), listed)
        listed.clear()
        for found in [kept.sources(at("A1")), kept.trusted_of(at("A1")), kept.trusted_of(at("B1")), kept.enter(kept.book, [at("C1")])]:
            found.append("x")
        self.assertEqual((kept.sources(at("A1")), kept.trusted_of(at("A1")), kept.trusted_of(at("B1"))), ([0, 1], [0, 2], [2]))
        self.check(kept)

    def test_made_up_changes(self):
        source = source_of(77)
        counts = {}
        for _ in range(25):
            book = small_book(source, 4, 4, 3, 30)
            kept = Kept(book, random_endorsements(source, book, 4))
            for _ in range(8):
                if source.random() < 0.6:
                    book, changed = random_changes(source, book, 4, 4)
                    found = kept.enter(book, changed)
                else:
                    listed = [one for one in kept.endorsements if source.random() < 0.6] + random_endorsements(source, book, 2)
                    changed = [one[1] for one in kept.endorsements + listed if (one in kept.endorsements) != (one in listed)]
                    found = kept.endorse(listed)
                again = {cell for cell in spelled.reaching(book[2], changed) | set(changed) if cell in book[2]}
                self.assertEqual(found, spelled.row_by_row(again))
                counts[len(found)] = True
                self.check(kept)
        self.assertGreater(len(counts), 8)

    def test_great_books(self):
        cells = cells_of(SHEET)
        book = book_of({}, OWNED)
        for place, cell in enumerate(cells):
            book[2][cell] = "=SUM(A1:Z1)" if cell[1] else "1"
            book[3][cell] = place % 3
        kept = Kept(book, [])
        self.assertEqual(kept.sources(at("Z99")), [0, 1, 2])
        made = ("book", 3, dict(book[2]), dict(book[3]), book[4], [])
        made[3][at("A2")] = 2
        self.assertEqual(kept.enter(made, [at("A2")]), [at("A2")])
        self.assertEqual(len(kept.enter(made, [at("C1")])), 1 + len(cells) - 26)
        self.assertEqual(kept.sources(at("B1")), [1])


if __name__ == "__main__":
    unittest.main()
