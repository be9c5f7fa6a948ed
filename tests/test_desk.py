"""Points 80 to 83 and 87, and the work that is told (points 84 to 86)."""

import copy
import unittest

from labelgrid.addresses import SHEET, cells_of, show_address
from labelgrid.desk import Desk
from labelgrid.edits import apply_edits, empty_book
from tests.helpers import area_of, at, book_of, boxes_in, grant_of, num, small_book, source_of
from tests.slowdesk import SlowDesk, random_deed

DENIED = ("denied",)
RIGHTS = ("refused", "rights")
NOTHING = ("refused", "nothing")
SIZE = ("refused", "size")
ENTRY = ("refused", "entry")


def deed(text, *rest):
    """A deed whose second word is an address or a range, as in "set A1"."""
    kind, _, name = text.partition(" ")
    if not name:
        return (kind,) + rest
    return (kind, area_of(name) if ":" in name else at(name)) + rest


class DeskTest(unittest.TestCase):
    def perform(self, desk, user, *parts):
        """The answer to a deed, which modifies no book and shares nothing with the deed."""
        book, passed = desk.book, deed(*parts)
        before = copy.deepcopy((book, passed))
        answer = desk.perform(user, passed)
        self.assertEqual((book, passed), before)
        if answer[0] == "refused":
            self.assertEqual(desk.book, book)
        self.assertEqual([box for box in boxes_in(answer) if box in boxes_in(passed)], [])
        return answer

    def check(self, desk, *steps):
        """Each step has a user, the parts of a deed and the answer."""
        for step in steps:
            self.assertEqual(self.perform(desk, *step[:-1]), step[-1], step)


class SetTest(DeskTest):
    def test_sets(self):
        desk = Desk(empty_book(2))
        self.check(desk, (0, "set A1", "7", ("ok", 1)), (1, "set A2", "=A1*2", ("ok", 1)), (1, "set A1", "8", ("ok", 2)),
                   (0, "entry A1", ("entry", "8")), (0, "read A1:A2", ("values", [num(8), num(16)])))
        self.assertEqual((desk.book[2], desk.book[3]), ({at("A1"): "8", at("A2"): "=A1*2"}, {at("A1"): 1, at("A2"): 1}))

    def test_reasons(self):
        desk = Desk(book_of({"A1": "1"}, [("A1:A9", [0, 1], [0])]))
        self.check(desk, (1, "set A1", "2", RIGHTS), (1, "set A1", "=", RIGHTS), (1, "set A1", "", RIGHTS), (2, "set A1", "1", RIGHTS),
                   (1, "set B1", "=", ENTRY), (1, "set B1", "=A1+", ENTRY), (1, "set B1", "x" * 61, ENTRY), (1, "set B1", "=" + "1+" * 200 + "1", ENTRY),
                   (1, "set B1", "'" + "x" * 60, ("ok", 1)), (0, "set A1", "x" * 60, ("ok", 1)))
        self.assertEqual(len(desk.journal()), 2)

    def test_blank_cells(self):
        desk = Desk(empty_book(1))
        self.check(desk, (0, "set A1", "", ("ok", 0)), (0, "set A2", "=A1", ("ok", 1)), (0, "set A1", "5", ("ok", 2)), (0, "set A1", "", ("ok", 1)),
                   (0, "entry A1", ("entry", "")), (0, "read A1:A2", ("values", [None, None])))
        self.assertEqual((desk.book[2], desk.book[3]), ({at("A2"): "=A1"}, {at("A2"): 0}))

    def test_another_author(self):
        desk = Desk(empty_book(2))
        self.check(desk, (0, "set A1", "7", ("ok", 1)), (1, "set A1", "7", ("ok", 1)))
        self.assertEqual(desk.book[3], {at("A1"): 1})

    def test_addresses_that_may_not_be_read(self):
        desk = Desk(book_of({"A1": "=B1", "A2": "=RSUM(B1:B2)"}, [("B1:B2", [0], [0, 1])], [grant_of("B1:B2")]))
        self.check(desk, (1, "set B1", "7", ("ok", 1)), (1, "entry B1", RIGHTS), (1, "read A1:A2", ("values", [DENIED, num(7)])),
                   (0, "entry B1", ("entry", "7")), (0, "set B1", "8", ("ok", 3)))

    def test_what_changes_what_is_seen(self):
        desk = Desk(book_of({"A1": "1", "A2": "=A1", "B1": "3"}, [("B1:B9", [0])]))
        self.check(desk, (1, "set A1", "=B1", ("ok", 0)), (1, "read A1:A2", ("values", [DENIED, DENIED])), (1, "set A1", "=B1*0", ("ok", 0)),
                   (1, "set A1", "2", ("ok", 0)), (1, "set A1", "3", ("ok", 2)), (0, "set A1", "=B1", ("ok", 2)))

    def test_circles(self):
        desk = Desk(empty_book(1))
        self.check(desk, (0, "set A1", "=A2", ("ok", 1)), (0, "set A2", "=A1", ("ok", 2)), (0, "set A3", "=A1", ("ok", 1)),
                   (0, "read A1:A3", ("values", [("error", "cycle")] * 3)), (0, "set A1", "4", ("ok", 3)), (0, "read A1:A3", ("values", [num(4)] * 3)))


class UndoTest(DeskTest):
    def test_twice_in_a_row(self):
        desk = Desk(book_of({"A1": "1"}))
        self.check(desk, (1, "set A1", "2", ("ok", 1)), (1, "set A1", "3", ("ok", 1)), (1, "undo A1", ("ok", 1)), (1, "entry A1", ("entry", "2")),
                   (1, "undo A1", ("ok", 1)), (1, "entry A1", ("entry", "1")), (1, "undo A1", NOTHING))
        self.assertEqual(desk.book[3], {at("A1"): 0})
        self.check(desk, (1, "set A1", "4", ("ok", 1)), (1, "undo A1", ("ok", 1)), (1, "undo A1", NOTHING))

    def test_rights(self):
        desk = Desk(book_of({}, [("A1:A9", [0], [0, 1, 2]), ("B1:B9", [0, 1, 2], [0])]))
        self.check(desk, (1, "set A1", "5", ("ok", 0)), (1, "undo A1", RIGHTS), (1, "undo B1", RIGHTS), (1, "undo C1", NOTHING), (0, "undo A1", NOTHING))

    def test_behind_another_set(self):
        desk = Desk(empty_book(2))
        self.check(desk, (0, "set A1", "1", ("ok", 1)), (1, "set A1", "2", ("ok", 1)), (0, "undo A1", NOTHING), (1, "undo A1", ("ok", 1)),
                   (0, "undo A1", ("ok", 0)), (0, "entry A1", ("entry", "")), (0, "undo A1", NOTHING))
        # The same text of another user is not what the set has made.
        self.check(desk, (0, "set A1", "1", ("ok", 1)), (1, "set A1", "1", ("ok", 1)), (0, "undo A1", NOTHING))
        # When it comes again, the set may be undone.
        self.check(desk, (1, "undo A1", ("ok", 1)), (0, "undo A1", ("ok", 0)))

    def test_sets_of_others_are_not_undone(self):
        desk = Desk(empty_book(2))
        self.check(desk, (0, "set A1", "1", ("ok", 1)), (1, "undo A1", NOTHING), (0, "set A2", "1", ("ok", 1)), (0, "undo A1", ("ok", 0)),
                   (0, "entry A2", ("entry", "1")))

    def test_sets_that_changed_nothing(self):
        desk = Desk(empty_book(2))
        self.check(desk, (0, "set A1", "1", ("ok", 1)), (0, "set A1", "1", ("ok", 1)), (0, "undo A1", ("ok", 1)), (0, "entry A1", ("entry", "1")),
                   (0, "undo A1", ("ok", 0)), (0, "entry A1", ("entry", "")), (0, "undo A1", NOTHING),
                   (0, "set B1", "", ("ok", 0)), (0, "undo B1", ("ok", 0)), (0, "undo B1", NOTHING))
        self.assertEqual([entry[2] for entry in desk.journal()],
                         [[("cell", at("A1"), "1", 0)], [], [], [("cell", at("A1"), "", None)], [], []])

    def test_sets_that_blank_a_cell(self):
        desk = Desk(book_of({"A1": "1"}, authors={"A1": 2}))
        self.check(desk, (1, "set A1", "", ("ok", 0)), (1, "undo A1", ("ok", 1)), (1, "undo A1", NOTHING))
        self.assertEqual((desk.book[2], desk.book[3]), ({at("A1"): "1"}, {at("A1"): 2}))

    def test_behind_a_rule(self):
        desk = Desk(empty_book(2))
        self.check(desk, (0, "set A1", "1", ("ok", 1)), (0, "set C1", "1", ("ok", 1)), (1, "rule A1:B9", [0, 1], [0, 1], [0, 1], ("ok",)),
                   (0, "undo A1", NOTHING), (0, "undo C1", ("ok", 0)), (0, "set A1", "2", ("ok", 1)), (0, "undo A1", ("ok", 1)), (0, "undo A1", NOTHING),
                   (0, "entry A1", ("entry", "1")))
        # A rule that was refused does not count.
        desk = Desk(book_of({}))
        self.check(desk, (1, "set A1", "1", ("ok", 1)), (1, "rule A1:B9", [0], [0], [0], RIGHTS), (1, "undo A1", ("ok", 0)))

    def test_sets_that_were_refused(self):
        desk = Desk(book_of({}, [("A1:A1", [0, 1, 2], [1])]))
        self.check(desk, (0, "set A1", "1", RIGHTS), (1, "set A1", "=", ENTRY), (1, "undo A1", NOTHING))

    def test_work(self):
        desk = Desk(book_of({"A2": "=A1", "A3": "=A2", "B1": "=A1"}, [("B1:B1", [0])]))
        self.check(desk, (1, "set A1", "5", ("ok", 3)), (1, "undo A1", ("ok", 2)), (0, "set A1", "5", ("ok", 4)), (0, "undo A1", ("ok", 3)))

    def test_the_author_comes_back(self):
        desk = Desk(book_of({"A1": "=A2"}, authors={"A1": 2}))
        self.check(desk, (0, "set A1", "=A2", ("ok", 1)), (0, "undo A1", ("ok", 1)))
        self.assertEqual(desk.journal()[1], (0, ("undo", at("A1")), [("cell", at("A1"), "=A2", 2)], [0, 1, 2]))


class TellTest(DeskTest):
    BOOK = book_of({"A1": "=B1", "A2": "=RSUM(B1:B2)", "A3": "=A1", "B1": "5", "A4": "x", "A5": "=1/0"}, [("B1:B9", [0])], [grant_of("B1:B2")])

    def test_reads(self):
        desk = Desk(self.BOOK)
        self.check(desk, (0, "read A1:B3", ("values", [num(5), num(5), num(5), None, num(5), None])),
                   (1, "read A1:B3", ("values", [DENIED, DENIED, num(5), DENIED, DENIED, DENIED])),
                   (1, "read A4:C5", ("values", [("text", "x"), DENIED, None, ("error", "zero"), DENIED, None])))

    def test_sizes(self):
        desk = Desk(self.BOOK)
        for name, wide in [("A1:J10", 100), ("C1:C99", 99), ("D1:E50", 100)]:
            self.assertEqual(len(self.perform(desk, 1, f"read {name}")[1]), wide)
            self.check(desk, (1, f"follow {name}", ("ok",)))
        desk = Desk(self.BOOK)
        for name in ["A1:Z4", "A1:Z99", "A1:B51", "A1:H13"]:
            self.check(desk, (1, f"read {name}", SIZE), (1, f"follow {name}", SIZE))
        # No range of the sheet has 101 addresses, since this is a prime number; A1:B51 has 102.
        self.assertEqual(desk.journal(), [])

    def test_entries(self):
        desk = Desk(self.BOOK)
        self.check(desk, (0, "entry B1", ("entry", "5")), (1, "entry B1", RIGHTS), (1, "entry B9", RIGHTS), (1, "entry A1", ("entry", "=B1")),
                   (1, "entry Z9", ("entry", "")))

    def test_whys(self):
        desk = Desk(self.BOOK)
        self.check(desk, (0, "why A3", ("seen",)), (1, "why A3", ("way", [at("A3"), at("A1"), at("B1")])), (1, "why B1", RIGHTS), (1, "why A2", ("seen",)),
                   (2, "why A2", ("way", [at("A2"), at("B1")])), (1, "why Z9", ("seen",)))

    def test_tables_are_new_each_time(self):
        desk = Desk(self.BOOK)
        for parts in [("read A1:A5",), ("why A3",), ("notices",), ("audit",)]:
            desk.perform(1, deed("follow A1:A2"))
            answer = desk.perform(1, deed(*parts))
            kept = copy.deepcopy(answer)
            answer[1].clear()
            if parts != ("notices",):
                self.assertEqual(desk.perform(1, deed(*parts)), kept)


class RuleTest(DeskTest):
    def test_rules(self):
        desk = Desk(book_of({"A1": "1"}))
        self.check(desk, (1, "rule A1:A2", [1], [1], [1], RIGHTS), (0, "rule A1:A2", [1], [1, 2], [1], ("ok",)), (0, "rule A1:A1", [0], [0], [0], RIGHTS),
                   (0, "rule A1:A9", [0], [0], [0], RIGHTS), (1, "rule A1:A2", [0], [0], [0, 1], ("ok",)), (1, "entry A1", RIGHTS), (0, "entry A1", ("entry", "1")))
        self.assertEqual(desk.book[4][1:], [(area_of("A1:A2"), [1], [1, 2], [1]), (area_of("A1:A2"), [0], [0], [0, 1])])

    def test_forty_rules(self):
        desk = Desk(book_of({}))
        for _ in range(39):
            self.check(desk, (0, "rule B1:C2", [0], [0], [0], ("ok",)))
        self.check(desk, (0, "rule B1:C2", [0], [0], [0], SIZE), (1, "rule B1:C2", [0], [0], [0], RIGHTS), (0, "grant B1:C2", ["RSUM"], [1], ("ok",)))
        self.assertEqual((len(desk.book[4]), len(desk.journal())), (40, 40))

    def test_forty_grants(self):
        desk = Desk(book_of({}))
        for _ in range(40):
            self.check(desk, (0, "grant B1:C2", ["RSUM"], [1], ("ok",)))
        self.check(desk, (0, "grant B1:C2", ["RSUM"], [1], SIZE), (1, "grant B1:C2", ["RSUM"], [1], RIGHTS), (0, "revoke", 7, ("ok",)),
                   (0, "grant B1:C2", ["RSUM"], [1], SIZE), (0, "rule B1:C2", [0], [0], [0], ("ok",)))
        self.assertEqual((len(desk.book[5]), len(desk.journal())), (40, 42))

    def test_grants(self):
        desk = Desk(book_of({"A1": "=RSUM(B1:B2)", "B1": "4"}, [("B1:B2", [0], [0], [0, 1])]))
        self.check(desk, (2, "grant B1:B2", ["RSUM"], [2], RIGHTS), (1, "grant B1:B3", ["RSUM"], [2], RIGHTS), (2, "read A1:A1", ("values", [DENIED])),
                   (1, "grant B1:B2", ["RSUM", "RMAX"], [2], ("ok",)), (2, "read A1:A1", ("values", [num(4)])), (1, "read A1:A1", ("values", [DENIED])))
        self.assertEqual(desk.book[5], [(area_of("B1:B2"), ["RSUM", "RMAX"], [2], 1, False)])

    def test_revoking(self):
        desk = Desk(book_of({"A1": "=RSUM(B1:B2)"}, [("B1:B2", [0], [0], [0, 1])]))
        for _ in range(3):
            self.check(desk, (1, "grant B1:B2", ["RSUM"], [2], ("ok",)))
        self.check(desk, (2, "revoke", 0, RIGHTS), (2, "revoke", 3, NOTHING), (1, "revoke", 3, NOTHING), (1, "revoke", -1, NOTHING), (1, "revoke", 0, ("ok",)), (1, "revoke", 0, NOTHING),
                   (2, "revoke", 0, NOTHING), (0, "revoke", 1, ("ok",)), (0, "revoke", 1, NOTHING), (2, "read A1:A1", ("values", [num(0)])))
        # The giver may revoke a grant also as no owner any more.
        self.check(desk, (0, "rule B1:B2", [0], [0], [0], ("ok",)), (2, "revoke", 2, RIGHTS), (1, "revoke", 2, ("ok",)), (2, "read A1:A1", ("values", [DENIED])))
        self.assertEqual([grant[4] for grant in desk.book[5]], [True, True, True])

    def test_revoking_needs_the_whole_range(self):
        desk = Desk(book_of({}, [("B1:B2", [0], [0], [0, 1]), ("B2:B2", [0], [0], [0])], [grant_of("B1:B2", by=2), grant_of("B1:B1", by=2, revoked=True)]))
        self.check(desk, (1, "revoke", 0, RIGHTS), (1, "revoke", 1, NOTHING), (0, "revoke", 0, ("ok",)))


class JournalTest(DeskTest):
    def test_entries(self):
        desk = Desk(book_of({"B1": "5"}, [("B1:B2", [0], [0, 1])]))
        lists = [[0, 1], [0], [0]]
        self.check(desk, (1, "set B1", "7", ("ok", 0)), (0, "set B1", "7", ("ok", 1)), (0, "set B1", "7", ("ok", 1)), (0, "undo B1", ("ok", 1)),
                   (0, "undo B1", ("ok", 1)), (2, "set A1", "", ("ok", 0)), (2, "set B1", "1", RIGHTS), (0, "rule A1:A1", *lists, ("ok",)),
                   (0, "grant A1:A1", ["RSUM"], [1], ("ok",)), (0, "revoke", 0, ("ok",)), (0, "read A1:A1", ("values", [None])), (0, "follow A1:A1", ("ok",)),
                   (0, "notices", ("notices", [])), (0, "audit", ("audit", [(1, deed("set B1", "7")), (0, deed("set B1", "7")), (0, deed("set B1", "7")),
                    (0, deed("undo B1")), (0, deed("undo B1")), (2, deed("set A1", "")), (0, deed("rule A1:A1", *lists)),
                    (0, deed("grant A1:A1", ["RSUM"], [1])), (0, deed("revoke", 0))])))
        self.assertEqual(desk.journal(), [
            (1, deed("set B1", "7"), [("cell", at("B1"), "7", 1)], [0, 1]),
            (0, deed("set B1", "7"), [("cell", at("B1"), "7", 0)], [0]),
            (0, deed("set B1", "7"), [], [0]),
            (0, deed("undo B1"), [], [0]),
            (0, deed("undo B1"), [("cell", at("B1"), "7", 1)], [0]),
            (2, deed("set A1", ""), [], [0, 1, 2]),
            (0, deed("rule A1:A1", *lists), [("rule", 2, (area_of("A1:A1"), *lists))], [0, 1, 2]),
            (0, deed("grant A1:A1", ["RSUM"], [1]), [("grant", (area_of("A1:A1"), ["RSUM"], [1], 0, False))], [0, 1, 2]),
            (0, deed("revoke", 0), [("revoke", 0, True)], [0, 1, 2])])

    def test_readers_are_those_of_the_time(self):
        desk = Desk(book_of({}))
        self.check(desk, (1, "set A1", "1", ("ok", 1)), (0, "rule A1:A1", [0], [0], [0], ("ok",)), (0, "set A1", "2", ("ok", 1)),
                   (0, "rule A1:A1", [0, 2], [0], [0], ("ok",)), (0, "set A1", "3", ("ok", 1)))
        rules = [(0, deed("rule A1:A1", users, [0], [0])) for users in ([0], [0, 2])]
        first, second, third = (1, deed("set A1", "1")), (0, deed("set A1", "2")), (0, deed("set A1", "3"))
        self.check(desk, (0, "audit", ("audit", [first, rules[0], second, rules[1], third])), (1, "audit", ("audit", [first, rules[0], rules[1]])),
                   (2, "audit", ("audit", [first, rules[0], rules[1], third])))

    def test_edits_lead_to_the_book(self):
        source = source_of(82)
        for _ in range(20):
            book = small_book(source)
            desk = Desk(book)
            for _ in range(25):
                desk.perform(source.randrange(3), random_deed(source, desk.book))
            edits = [edit for entry in desk.journal() for edit in entry[2]]
            self.assertEqual(apply_edits(book, edits), desk.book)

    def test_what_is_returned_may_be_changed(self):
        desk = Desk(book_of({}))
        lists = [[0, 1], [0], [0]]
        passed = deed("rule A1:A1", *lists)
        desk.perform(0, passed)
        desk.perform(0, deed("grant A1:A1", ["RSUM"], [1]))
        desk.perform(0, deed("set A1", "1"))
        kept, book = copy.deepcopy(desk.journal()), copy.deepcopy(desk.book)
        for box in boxes_in(desk.journal()).values():
            box.clear()
        for box in boxes_in(desk.perform(0, ("audit",))).values():
            box.clear()
        for users in lists:
            users.append(2)
        self.assertEqual((desk.journal(), desk.book), (kept, book))
        self.assertEqual([entry[:2] for entry in kept], desk.perform(0, ("audit",))[1])


class FollowTest(DeskTest):
    def test_notices(self):
        desk = Desk(book_of({"A1": "1", "A2": "=A1"}))
        self.check(desk, (1, "notices", ("notices", [])), (1, "follow A1:B2", ("ok",)), (1, "notices", ("notices", [])), (0, "set A1", "2", ("ok", 2)),
                   (0, "notices", ("notices", [])), (0, "set B1", "x", ("ok", 1)), (1, "notices", ("notices", [(at("A1"), num(2)), (at("B1"), ("text", "x")),
                                                                                                     (at("A2"), num(2))])),
                   (1, "notices", ("notices", [])), (0, "set B1", "", ("ok", 0)), (1, "notices", ("notices", [(at("B1"), None)])))

    def test_changes_that_were_taken_back(self):
        desk = Desk(book_of({"A1": "1"}))
        self.check(desk, (1, "follow A1:A1", ("ok",)), (0, "set A1", "2", ("ok", 1)), (0, "set A1", "1.0", ("ok", 1)), (1, "notices", ("notices", [])),
                   (0, "set A1", "2", ("ok", 1)), (1, "notices", ("notices", [(at("A1"), num(2))])), (0, "undo A1", ("ok", 1)),
                   (1, "notices", ("notices", [(at("A1"), num(1))])))

    def test_ranges_by_themselves(self):
        desk = Desk(book_of({"A1": "1"}))
        self.check(desk, (1, "follow A1:A2", ("ok",)), (0, "set A1", "2", ("ok", 1)), (1, "follow A1:B1", ("ok",)), (1, "follow A1:A2", ("ok",)),
                   (1, "notices", ("notices", [(at("A1"), num(2))])), (0, "set A1", "3", ("ok", 1)), (0, "set B1", "4", ("ok", 1)),
                   (1, "notices", ("notices", [(at("A1"), num(3)), (at("A1"), num(3)), (at("B1"), num(4)), (at("A1"), num(3))])))

    def test_four_and_five_ranges(self):
        desk = Desk(book_of({}))
        self.check(desk, (1, "follow A1:A2", ("ok",)), (1, "follow A1:Z9", SIZE), (1, "follow A1:A2", ("ok",)), (1, "follow B1:B2", ("ok",)),
                   (1, "follow C1:C2", ("ok",)), (1, "follow D1:D2", SIZE), (1, "follow A1:A2", SIZE), (0, "follow D1:D2", ("ok",)), (0, "set D1", "1", ("ok", 1)),
                   (1, "notices", ("notices", [])), (0, "notices", ("notices", [(at("D1"), num(1))])), (1, "follow D1:D2", SIZE))

    def test_what_is_seen_changes(self):
        desk = Desk(book_of({"A1": "=B1", "B1": "5", "A2": "=RSUM(B1:B2)"}))
        self.check(desk, (1, "follow A1:B2", ("ok",)), (0, "rule B1:B2", [0], [0], [0], ("ok",)),
                   (1, "notices", ("notices", [(at("A1"), DENIED), (at("B1"), DENIED), (at("A2"), DENIED), (at("B2"), DENIED)])),
                   (0, "set B1", "7", ("ok", 3)), (1, "notices", ("notices", [])), (0, "grant B1:B2", ["RSUM"], [1], ("ok",)),
                   (1, "notices", ("notices", [(at("A2"), num(7))])), (0, "set B2", "1", ("ok", 2)), (1, "notices", ("notices", [(at("A2"), num(8))])),
                   (0, "revoke", 0, ("ok",)), (0, "rule B2:B2", [0, 1], [0], [0], ("ok",)), (1, "notices", ("notices", [(at("A2"), DENIED), (at("B2"), num(1))])),
                   (0, "set A1", "1", ("ok", 1)), (1, "notices", ("notices", [(at("A1"), num(1))])))


class WholeTest(DeskTest):
    def test_desks_that_begin_with_a_book(self):
        book = book_of({"A1": "=RSUM(B1:B2)", "B1": "3", "A2": "=A2"}, [("B1:B2", [0], [0], [0, 1])], [grant_of("B1:B2"), grant_of("B1:B2", to=[2], revoked=True)],
                       authors={"B1": 2})
        kept = copy.deepcopy(book)
        desk = Desk(book)
        self.assertEqual((desk.book, desk.journal()), (book, []))
        self.check(desk, (1, "read A1:A2", ("values", [num(3), ("error", "cycle")])), (2, "read A1:A1", ("values", [DENIED])), (2, "undo A1", NOTHING),
                   (2, "revoke", 0, RIGHTS), (2, "revoke", 1, NOTHING), (0, "set B2", "4", ("ok", 2)), (1, "read A1:A1", ("values", [num(7)])), (0, "undo A1", NOTHING),
                   (1, "audit", ("audit", [])))
        self.assertEqual(book, kept)

    def test_twelve_users(self):
        desk = Desk(empty_book(12))
        for user in range(12):
            self.check(desk, (user, f"set A{user + 1}", "=B1", ("ok", 1)))
        self.check(desk, (11, "rule B1:B1", [3, 11], [11], [11], ("ok",)), (11, "set B1", "9", ("ok", 13)))
        for user in range(12):
            seen = num(9) if user in (3, 11) else DENIED
            self.check(desk, (user, "read A1:A12", ("values", [seen] * 12)))
        self.assertEqual([entry[3] for entry in desk.journal()], [list(range(12))] * 13 + [[3, 11]])

    def test_against_the_words_of_the_document(self):
        source = source_of(81)
        answers = {}
        for number in range(40):
            book = small_book(source, 4, 4, 3, 40)
            if number % 2:
                book = book[:4] + ([(SHEET, [0, 1, 2], [0, 1, 2], [0, 1, 2])] + book[4][1:], book[5])
            desk, slow, last = Desk(book), SlowDesk(book), (0, (0, 0))
            for _ in range(25):
                user, one = source.randrange(3), random_deed(source, slow.book)
                if one[0] == "undo" and source.random() < 0.6:
                    user, one = last[0], ("undo", last[1])
                if one[0] == "set":
                    last = (user, one[1])
                answer = desk.perform(user, one)
                self.assertEqual(answer, slow.perform(user, one), (user, one))
                self.assertEqual(desk.book, slow.book)
                answers[(one[0],) + (answer if answer[0] == "refused" else answer[:1])] = True
            self.assertEqual(desk.journal(), slow.entries)
        # Every kind of deed was accepted, and refused for every reason but for sizes.
        kinds = ["entry", "grant", "revoke", "rule", "set", "undo", "why"]
        wanted = [(kind, "refused", "rights") for kind in kinds]
        wanted += [("set", "refused", "entry"), ("undo", "refused", "nothing"), ("revoke", "refused", "nothing")]
        wanted += [(kind, "ok") for kind in ["set", "undo", "rule", "grant", "revoke", "follow"]]
        wanted += [("read", "values"), ("entry", "entry"), ("why", "seen"), ("why", "way"), ("notices", "notices"), ("audit", "audit")]
        self.assertEqual([one for one in wanted if one not in answers], [])

    def test_what_is_passed_and_returned_may_be_changed(self):
        source = source_of(80)
        for _ in range(15):
            book = small_book(source, 4, 4, 3, 40)
            one, other, books = Desk(book), Desk(book), []
            for _ in range(30):
                user, passed = source.randrange(3), random_deed(source, one.book)
                books.append((one.book, copy.deepcopy(one.book)))
                kept = copy.deepcopy(passed)
                answer = one.perform(user, passed)
                self.assertEqual(answer, other.perform(user, kept))
                for box in [*boxes_in(answer).values(), *boxes_in(passed).values(), *boxes_in(one.journal()).values()]:
                    box.clear()
            self.assertEqual((one.book, one.journal()), (other.book, other.journal()))
            self.assertTrue(all(book == kept for book, kept in books))

    def test_great_books(self):
        cells = cells_of(SHEET)
        entries = {show_address(cell): f"={show_address(cells[place + 1])}+1" for place, cell in enumerate(cells[:-1])}
        desk = Desk(book_of(entries, [("B50:C60", [0])]))
        self.check(desk, (0, "set Z99", "1", ("ok", 2574)), (0, "read A1:A1", ("values", [num(2574)])), (1, "read A1:A1", ("values", [DENIED])),
                   (1, "set Z99", "2", ("ok", 2574 - 26 * 59 - 3)))
        for number in range(50):
            self.assertEqual(desk.perform(0, deed("set A1", str(number))), ("ok", 1))
            self.assertEqual(desk.perform(1, deed("set Y99", f"=Z99+{number}")), ("ok", 2573 - 26 * 59 - 3))


if __name__ == "__main__":
    unittest.main()
