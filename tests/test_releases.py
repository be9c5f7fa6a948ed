"""Points 120 to 123."""

import copy
import unittest

from labelgrid.addresses import SHEET, cells_of
from labelgrid.desk import Desk
from labelgrid.edits import apply_edits
from labelgrid.flow import sees
from labelgrid.releases import cuts, log_right, release_log, releases
from tests import spelled
from tests.helpers import area_of, at, book_of, check_pure, grant_of, small_book, source_of
from tests.slowdesk import random_deed

SECRET = [("B1:B9", [0])]


def release(name, node, index, *users):
    return (at(name), node, index, list(users))


def slow_log(book, journal):
    """Point 121, word by word."""
    log = [(0, one) for one in spelled.releases(book)]
    for step, (_, _, edits, _) in enumerate(journal, start=1):
        before = spelled.releases(book)
        book = apply_edits(book, edits)
        log += [(step, one) for one in spelled.releases(book) if one not in before]
    return log


def random_desk(source, deeds):
    """A book and a desk on which so many deeds were tried."""
    book = small_book(source, 4, 4, 3, 30)
    if source.random() < 0.6:
        book = book[:4] + ([(SHEET, [0, 1, 2], [0, 1, 2], [0, 1, 2])] + book[4][1:], book[5])
    desk = Desk(book)
    for _ in range(deeds):
        deed = random_deed(source, desk.book)
        user = source.randrange(3)
        desk.perform(user, deed)
        if deed[0] == "set" and source.random() < 0.4:
            desk.perform(user, ("undo", deed[1]))
    return book, desk


class ReleasesTest(unittest.TestCase):
    def test_calls(self):
        book = book_of({"A2": "=RSUM(B1:B2)+SUM(RSUM(B1:B2),RMAX(B1:B2))", "C1": "=RSUM(B1:B3)+RMIN(B1)", "A1": "=RMAX(B1:B2)", "A3": "=RSUM(#REF)"},
                       SECRET, [grant_of("B1:B2"), grant_of("B1:B2", ["RMAX", "RSUM"], [1, 2]), grant_of("B1:B1", ["RMIN"], [])])
        self.assertEqual(check_pure(self, releases, book), [release("A1", 0, 1, 1, 2), release("C1", 1, 2), release("A2", 0, 0, 1), release("A2", 0, 1, 1, 2),
                                                            release("A2", 2, 0, 1), release("A2", 2, 1, 1, 2), release("A2", 3, 1, 1, 2)])

    def test_live_grants_alone(self):
        book = book_of({"A1": "=RSUM(B1:B2)"}, SECRET, [grant_of("B1:B2", by=1), grant_of("B1:B2", revoked=True), grant_of("B1:B2", to=[2])])
        self.assertEqual(releases(book), [release("A1", 0, 2, 2)])
        self.assertEqual(releases(book_of({"A1": "=RSUM(B1:B2)"})), [])

    def test_made_up_books(self):
        source = source_of(120)
        count = 0
        for _ in range(80):
            book = small_book(source, 4, 4, 3, 20)
            found = check_pure(self, releases, book)
            self.assertEqual(found, spelled.releases(book))
            count += len(found)
        self.assertGreater(count, 30)


class LogTest(unittest.TestCase):
    def check(self, desk, book, *steps):
        """Perform deeds that are accepted, and compare the log with the triples of a step and a release."""
        journal = desk.journal()
        self.assertEqual(check_pure(self, release_log, book, journal), list(steps))
        self.assertIs(check_pure(self, log_right, book, journal, list(steps)), True)

    def test_several_steps(self):
        book = book_of({"A1": "=RSUM(B1:B2)", "A2": "=RSUM(B1:B2)+RMAX(B1:B2)"}, SECRET, [grant_of("B1:B2")])
        desk = Desk(book)
        first = [(0, release("A1", 0, 0, 1)), (0, release("A2", 0, 0, 1))]
        self.check(desk, book, *first)
        for user, deed in [(0, ("grant", area_of("B1:B2"), ["RMAX"], [1, 2])), (2, ("set", at("C1"), "=RMAX(B1:B2)")), (0, ("revoke", 0)),
                           (2, ("set", at("C1"), "=RMAX(B1:B2)+RMAX(B1:B2)")), (0, ("grant", area_of("B1:B2"), ["RSUM"], [1]))]:
            self.assertEqual(desk.perform(user, deed)[0], "ok")
        self.check(desk, book, *first, (1, release("A2", 1, 1, 1, 2)), (2, release("C1", 0, 1, 1, 2)), (4, release("C1", 1, 1, 1, 2)),
                   (5, release("A1", 0, 2, 1)), (5, release("A2", 0, 2, 1)))

    def test_several_grants_at_one_step(self):
        book = book_of({}, SECRET, [grant_of("B1:B2"), grant_of("B1:B2", to=[2]), grant_of("B1:B2", ["RMIN"])])
        desk = Desk(book)
        desk.perform(1, ("set", at("A1"), "=RMIN(B1:B2)+RSUM(B1:B2)"))
        self.check(desk, book, (1, release("A1", 0, 2, 1)), (1, release("A1", 1, 0, 1)), (1, release("A1", 1, 1, 2)))

    def test_a_release_that_goes_and_comes_again(self):
        book = book_of({"A1": "=RSUM(B1:B2)", "A2": "=RSUM(B1:B2)"}, SECRET, [grant_of("B1:B2")])
        desk = Desk(book)
        for user, deed in [(1, ("set", at("A1"), "7")), (1, ("set", at("A9"), "1")), (1, ("undo", at("A1"))), (0, ("rule", area_of("B2:B2"), [0], [0], [1])),
                           (1, ("rule", area_of("B2:B2"), [0], [0], [0])), (2, ("set", at("A1"), "=RSUM(B1:B2)*2"))]:
            self.assertEqual(desk.perform(user, deed)[0], "ok")
        one, two = release("A1", 0, 0, 1), release("A2", 0, 0, 1)
        self.check(desk, book, (0, one), (0, two), (3, one), (5, one), (5, two))

    def test_made_up_journals(self):
        source = source_of(121)
        steps = {}
        for _ in range(40):
            book, desk = random_desk(source, 20)
            journal = desk.journal()
            log = check_pure(self, release_log, book, journal)
            self.assertEqual(log, slow_log(book, journal))
            self.assertIs(check_pure(self, log_right, book, journal, log), True)
            for step, _ in log:
                steps[step] = True
        self.assertGreater(len(steps), 10)


class PaperTest(unittest.TestCase):
    def setUp(self):
        self.book = book_of({"A1": "=RSUM(B1:B2)", "A2": "=RMAX(B1:B2)"}, SECRET, [grant_of("B1:B2")])
        desk = Desk(self.book)
        for user, deed in [(0, ("grant", area_of("B1:B2"), ["RMAX"], [2])), (0, ("set", at("B1"), "5")), (1, ("set", at("A3"), "=RSUM(B1:B2)")), (1, ("undo", at("A3"))),
                           (1, ("set", at("A4"), "")), (0, ("rule", area_of("C1:C1"), [0], [0], [0])), (0, ("revoke", 1))]:
            self.assertEqual(desk.perform(user, deed)[0], "ok")
        self.journal = desk.journal()
        self.log = release_log(self.book, self.journal)

    def right(self, journal, log):
        return check_pure(self, log_right, self.book, journal, log)

    def test_the_log(self):
        self.assertEqual(self.log, [(0, release("A1", 0, 0, 1)), (1, release("A2", 0, 1, 2)), (3, release("A3", 0, 0, 1))])
        self.assertIs(self.right(self.journal, self.log), True)
        self.assertIs(self.right([], self.log[:1]), True)
        self.assertIs(check_pure(self, log_right, book_of({}), [], []), True)

    def test_other_logs(self):
        for place in range(3):
            self.assertIs(self.right(self.journal, self.log[:place] + self.log[place + 1:]), False)
            self.assertIs(self.right(self.journal, self.log[:place] + [self.log[place]] + self.log[place:]), False)
            step, (cell, node, index, users) = self.log[place]
            for other in [(step + 1, (cell, node, index, users)), (step, (at("A9"), node, index, users)), (step, (cell, node + 1, index, users)),
                          (step, (cell, node, 1 - index, users)), (step, (cell, node, index, [0])), (step, (cell, node, index, []))]:
                self.assertIs(self.right(self.journal, self.log[:place] + [other] + self.log[place + 1:]), False)
        self.assertIs(self.right(self.journal, self.log[::-1]), False)
        self.assertIs(self.right(self.journal, []), False)
        self.assertIs(self.right([], self.log), False)

    def test_entries_that_a_desk_refuses(self):
        for user, deed, edits in [
                (1, ("set", at("A1"), "="), []), (1, ("rule", area_of("C2:C2"), [0], [0], [0]), [("rule", 3, (area_of("C2:C2"), [0], [0], [0]))]),
                (1, ("undo", at("A3")), []), (2, ("undo", at("A1")), []), (1, ("set", at("B1"), "6"), [("cell", at("B1"), "6", 1)]),
                (0, ("revoke", 1), [("revoke", 1, True)]), (0, ("revoke", 7), [("revoke", 7, True)]), (2, ("revoke", 0), [("revoke", 0, True)]),
                (1, ("grant", area_of("B1:B2"), ["RMAX"], [1]), [("grant", grant_of("B1:B2", ["RMAX"], by=1))]),
                (7, ("set", at("B1"), "6"), [("cell", at("B1"), "6", 7)])]:
            self.assertIs(self.right(self.journal + [(user, deed, edits, [0, 1, 2])], self.log), False, deed)
            self.assertIs(self.right([(user, deed, edits, [0, 1, 2])] + self.journal, [(step and step + 1, one) for step, one in self.log]), False, deed)
        # Without the set its undoing is refused.
        left = [(step - (step > 3), one) for step, one in self.log if step != 3]
        self.assertIs(self.right(self.journal[:2] + self.journal[3:], left), False)
        self.assertIs(self.right(self.journal[:2] + self.journal[4:], left), True)

    def test_other_edits_and_readers(self):
        for place, (user, deed, edits, readers) in enumerate(self.journal):
            for other in [(user, deed, edits + [("revoke", 0, True)], readers), (user, deed, edits, readers + [9]), (user, deed, edits, readers[1:]),
                          (user, deed, edits[1:] if edits else [("cell", at("A4"), "", None)], readers), (1 - user, deed, edits, readers)]:
                # Blanking a blank address is the same deed, whoever does it.
                if other[1:] != (("set", at("A4"), ""), [], [0, 1, 2]):
                    self.assertIs(self.right(self.journal[:place] + [other] + self.journal[place + 1:], self.log), False, other)
        user, deed, edits, readers = self.journal[1]
        self.assertIs(self.right(self.journal[:1] + [(user, ("set", at("B1"), "6"), edits, readers)] + self.journal[2:], self.log), False)
        self.assertIs(self.right(self.journal[:1] + [(user, deed, [("cell", at("B1"), "5", 1)], readers)] + self.journal[2:], self.log), False)

    def test_another_book(self):
        other = copy.deepcopy(self.book)
        other[4][1] = (area_of("B1:B9"), [0], [0], [0, 1])
        self.assertIs(log_right(other, self.journal, self.log), True)
        other[5].clear()
        self.assertIs(log_right(other, self.journal, self.log), False)


class CutsTest(unittest.TestCase):
    def check(self, book, table, user=1):
        for name, wanted in table.items():
            self.assertTrue(sees(book, user, at(name)), name)
            self.assertEqual(check_pure(self, cuts, book, user, at(name)), wanted, name)

    def test_cells_behind_each_other(self):
        book = book_of({"A1": "=RSUM(B1:B2)", "A2": "=A1+RMAX(B1:B2)", "A3": "=A2", "A4": "=RSUM(A3:A3)+C1", "A5": "7", "A6": "=C1"}, SECRET,
                       [grant_of("B1:B2", ["RSUM", "RMAX"]), grant_of("B1:B2", to=[0, 1]), grant_of("A3:A3"), grant_of("B1:B2", ["RMAX"], [2])])
        below = [release("A1", 0, 0, 1), release("A1", 0, 1, 0, 1)]
        self.check(book, {"A1": below, "A2": below + [release("A2", 0, 0, 1)], "A3": below + [release("A2", 0, 0, 1)], "A5": [], "A6": [], "Z9": [],
                          # The range A3:A3 reaches what may not be read; it is not gone through.
                          "A4": [release("A4", 0, 2, 1)]})
        self.check(book, {"A1": [], "A4": []}, 0)

    def test_calls_through_which_nothing_hidden_flows(self):
        book = book_of({"A1": "=RSUM(C1:C2)+RSUM(D1:D2)", "C1": "5", "D1": "=E1", "E1": "=B1"}, SECRET, [grant_of("C1:C2"), grant_of("D1:D2")])
        self.check(book, {"A1": [release("A1", 1, 1, 1)]})

    def test_ranges_that_reach_through_released_calls(self):
        # Point 41 takes all uses, also those that are released.
        book = book_of({"A1": "=RSUM(C1:C2)", "C1": "=RSUM(B1:B2)"}, SECRET, [grant_of("C1:C2"), grant_of("B1:B2")])
        self.check(book, {"A1": [release("A1", 0, 0, 1)], "C1": [release("C1", 0, 1, 1)]})

    def test_made_up_books(self):
        source = source_of(123)
        count = 0
        for _ in range(25):
            book, desk = random_desk(source, 8)
            log = [one for _, one in release_log(book, desk.journal())]
            book = desk.book
            edges = spelled.edges_of(book[2])
            for cell in cells_of(((0, 0), (3, 3))):
                for user in range(3):
                    if not sees(book, user, cell):
                        continue
                    found = check_pure(self, cuts, book, user, cell)
                    self.assertEqual(found, spelled.cuts(book, user, cell))
                    self.assertTrue(all(one in log for one in found))
                    if not all(spelled.may(book, user, "read", other) for other in spelled.reached(edges, cell)):
                        self.assertNotEqual(found, [])
                        count += 1
        self.assertGreater(count, 5)


if __name__ == "__main__":
    unittest.main()
