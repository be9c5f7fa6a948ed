"""Points 124 to 129."""

import copy
import unittest
import unittest.mock

from labelgrid.addresses import SHEET, cells_of
from labelgrid.denoting import denote
from labelgrid.desk import Desk
from labelgrid.edits import apply_edit
from labelgrid.low import alike, compare, secret, told_values
from labelgrid.sources import sources_of
from tests import spelled
from tests.helpers import area_of, at, book_of, check_pure, grant_of, num, small_book, small_text, source_of
from tests.slowdesk import random_deed

SECRET = [("B1:B9", [0])]
CYCLE = ("error", "cycle")


def changed(book, name, text, user=0):
    return apply_edit(book, ("cell", at(name), text, user if text else None))


class ToldTest(unittest.TestCase):
    def check(self, book, user, *told):
        wanted = [(at(name), node, value) for name, node, value in told]
        self.assertEqual(check_pure(self, told_values, book, user), wanted)

    def test_values(self):
        book = book_of({"A2": "=RSUM(B1:B2)+RMAX(B1:B2)", "A1": "=IF(FALSE,RMAX(B1:B2),1)", "C1": "=SUM(RSUM(B1:B2),RSUM(B1:B3))", "A3": "=RMIN(B2)", "B1": "4", "B2": "=B1*2"},
                       SECRET, [grant_of("B1:B2", ["RSUM", "RMAX"]), grant_of("B1:B2"), grant_of("B2:B2", ["RMIN"], [1, 2])])
        self.check(book, 1, ("A1", 1, num(8)), ("C1", 1, num(12)), ("A2", 0, num(12)), ("A2", 1, num(8)), ("A3", 0, num(8)))
        self.check(book, 2, ("A3", 0, num(8)))
        self.check(book, 0)

    def test_addresses_that_may_not_be_read(self):
        book = book_of({"A1": "=RSUM(B1:B2)", "B3": "=RSUM(B1:B2)", "A2": "=B3+RSUM(B1:B2)"}, SECRET, [grant_of("B1:B2")])
        # A2 may be read, although it is not seen.
        self.check(book, 1, ("A1", 0, num(0)), ("A2", 0, num(0)))

    def test_circles(self):
        book = book_of({"A1": "=RSUM(B1:B2)", "B1": "=1/0", "B2": "=A1", "A2": "=RSUM(B1:B1)", "A3": "=RCOUNT(B3:B4)", "B4": "=B4"}, SECRET,
                       [grant_of("B1:B2"), grant_of("B1:B1"), grant_of("B3:B4", ["RCOUNT"])])
        self.check(book, 1, ("A1", 0, CYCLE), ("A2", 0, ("error", "zero")), ("A3", 0, CYCLE))

    def test_made_up_books(self):
        source = source_of(124)
        count = 0
        for _ in range(80):
            book = small_book(source, 4, 4, 3, 20)
            for user in range(3):
                found = check_pure(self, told_values, book, user)
                self.assertEqual(found, spelled.told_values(book, user))
                count += len(found)
        self.assertGreater(count, 20)


class AlikeTest(unittest.TestCase):
    BOOK = book_of({"A1": "=RSUM(B1:B2)", "A2": "7", "B1": "4", "B2": "5"}, SECRET, [grant_of("B1:B2")])

    def alike(self, user, other):
        found = check_pure(self, alike, user, self.BOOK, other)
        self.assertIs(alike(user, other, self.BOOK), found)
        return found

    def test_hidden_entries(self):
        self.assertIs(self.alike(1, self.BOOK), True)
        self.assertIs(self.alike(1, copy.deepcopy(self.BOOK)), True)
        # The sum stays 9.
        other = changed(changed(self.BOOK, "B1", "8", 2), "B2", "1")
        self.assertIs(self.alike(1, other), True)
        self.assertIs(self.alike(0, other), False)
        self.assertIs(self.alike(1, changed(self.BOOK, "B3", "1")), True)
        self.assertIs(self.alike(1, changed(changed(self.BOOK, "B1", "9"), "B2", "")), True)

    def test_told_values(self):
        other = changed(self.BOOK, "B1", "5")
        self.assertIs(self.alike(1, other), False)
        # Nothing is released to the user 2.
        self.assertIs(self.alike(2, other), True)

    def test_readable_entries_and_authors(self):
        self.assertIs(self.alike(1, changed(self.BOOK, "A2", "8")), False)
        self.assertIs(self.alike(1, changed(self.BOOK, "A2", "")), False)
        self.assertIs(self.alike(1, changed(self.BOOK, "A3", "8")), False)
        self.assertIs(self.alike(1, changed(self.BOOK, "A2", "7.0")), False)
        self.assertIs(self.alike(1, changed(self.BOOK, "A2", "7", 1)), False)

    def test_users_rules_and_grants(self):
        _, users, entries, authors, rules, grants = self.BOOK
        self.assertIs(self.alike(1, ("book", 4, entries, authors, rules, grants)), False)
        self.assertIs(self.alike(1, ("book", users, entries, authors, rules + [rules[1]], grants)), False)
        self.assertIs(self.alike(1, ("book", users, entries, authors, rules[:1] + [(area_of("B1:B9"), [0], [0], [0, 2])], grants)), False)
        self.assertIs(self.alike(1, ("book", users, entries, authors, rules, grants + grants)), False)
        self.assertIs(self.alike(1, ("book", users, entries, authors, rules, [grant_of("B1:B2", revoked=True)])), False)
        self.assertIs(self.alike(1, ("book", users, entries, authors, rules, [grant_of("B1:B2", to=[1, 2])])), False)

    def test_made_up_books(self):
        source = source_of(125)
        found = {}
        for _ in range(150):
            book = small_book(source, 4, 4, 3, 40)
            other = book
            for _ in range(source.randrange(1, 3)):
                cell = source.choice([one for one in cells_of(((0, 0), (3, 3)))])
                other = apply_edit(other, ("cell", cell, small_text(source, 4, 4, 60), source.randrange(3)))
            for user in range(3):
                answer = check_pure(self, alike, user, book, other)
                self.assertIs(answer, spelled.alike(user, book, other))
                found[answer] = found.get(answer, 0) + 1
        self.assertGreater(min(found[True], found[False]), 10)


class SecretTest(unittest.TestCase):
    def test_operations(self):
        book = book_of({}, SECRET)
        b1, a1, area = at("B1"), at("A1"), area_of("B1:B2")
        for actor, deed, wanted in [
                (0, ("set", b1, "7"), True), (2, ("set", b1, "7"), True), (1, ("set", b1, "7"), False), (0, ("undo", b1), True), (1, ("undo", b1), False),
                (0, ("set", a1, "7"), False), (0, ("undo", a1), False), (2, ("set", b1, "="), True), (0, ("entry", b1), False), (0, ("why", b1), False),
                (0, ("read", area), False), (0, ("rule", area, [], [], []), False), (0, ("grant", area, ["RSUM"], []), False), (0, ("revoke", 0), False),
                (0, ("follow", area), False), (0, ("notices",), False), (0, ("audit",), False)]:
            self.assertIs(check_pure(self, secret, 1, book, (actor, deed)), wanted, (actor, deed))
        self.assertIs(secret(0, book, (1, ("set", b1, "7"))), False)
        self.assertIs(secret(2, book, (1, ("set", b1, "7"))), True)


class CompareTest(unittest.TestCase):
    BOOK = book_of({"A1": "=B1", "A2": "=RSUM(B1:B2)", "B1": "4"}, [("B1:B9", [0], [0, 1, 2])], [grant_of("B1:B2")])
    READ = (1, ("read", area_of("A1:B2")))
    BACK = (0, ("undo", at("B1")))

    def put(self, name, text, user=0):
        return (user, ("set", at(name), text))

    def check(self, one, other, wanted, books=None):
        books = books or (self.BOOK, self.BOOK)
        self.assertEqual(check_pure(self, compare, 1, books, (list(one), list(other))), wanted)
        self.assertEqual(compare(1, (books[1], books[0]), (list(other), list(one))), wanted)

    def test_comparisons_that_are_the_same(self):
        self.check([], [], ("same", 0))
        self.check([self.READ], [self.READ], ("same", 1))
        self.check([self.READ, self.put("A3", "1"), self.READ], [self.READ, self.put("A3", "1"), self.READ], ("same", 2))
        self.check([self.put("A3", "1", 1), (1, ("notices",)), (1, ("audit",)), (0, ("audit",))], [self.put("A3", "1", 1), (1, ("notices",)), (1, ("audit",)), (0, ("audit",))],
                   ("same", 3))

    def test_secret_operations_in_any_number(self):
        self.check([self.put("B3", "1"), self.READ], [self.READ], ("same", 1))
        self.check([self.put("B3", "1"), self.put("B4", "="), self.put("B4", "x", 2), self.READ, self.put("B5", "5")], [self.put("B3", "7"), self.READ], ("same", 1))
        # The sum is the same again.
        self.check([self.put("B1", "5"), self.put("B1", "4"), self.READ], [self.READ], ("same", 1))
        self.check([self.put("B1", "3"), self.put("B2", "1"), self.READ], [self.READ], ("same", 1))
        self.check([self.put("B1", "5"), self.BACK, self.READ], [self.put("B1", "6", 2), self.put("B1", "4"), self.READ], ("same", 1))
        self.check([self.put("B3", "1")], [], ("same", 0))

    def test_unfair_comparisons(self):
        self.check([self.READ], [], ("unfair", 0))
        self.check([self.READ, self.READ], [self.READ], ("unfair", 1))
        self.check([self.put("B1", "5"), self.READ], [self.READ], ("unfair", 0))
        self.check([self.READ, self.put("B1", "5")], [self.READ], ("unfair", 1))
        self.check([self.READ], [(1, ("read", area_of("A1:B1")))], ("unfair", 0))
        self.check([self.READ], [(2, ("read", area_of("A1:B2")))], ("unfair", 0))
        self.check([self.put("A3", "1")], [self.put("A3", "2")], ("unfair", 0))
        # What the user sets is not secret.
        self.check([self.put("B3", "1", 1)], [self.put("B3", "2", 1)], ("unfair", 0))
        # A rule lets the user read what was secret.
        rule = (0, ("rule", area_of("B3:B3"), [0, 1], [0], [0]))
        self.check([self.put("B3", "1"), rule, self.READ], [self.put("B3", "2"), rule, self.READ], ("unfair", 0))
        self.check([self.put("B3", "1"), rule, self.READ], [self.put("B3", "1"), rule, self.READ], ("same", 1))
        # Behind it sets are not secret.
        self.check([rule, self.put("B3", "1"), self.READ], [rule, self.READ], ("unfair", 0))
        rule = (0, ("rule", area_of("A3:A3"), [0], [0], [0]))
        self.check([rule, self.put("A3", "1"), self.READ], [rule, self.READ], ("same", 1))

    def test_books_that_are_not_alike(self):
        other = changed(self.BOOK, "B1", "5")
        self.check([], [], ("unfair", 0), (self.BOOK, other))
        self.check([self.READ], [self.READ], ("unfair", 0), (self.BOOK, other))
        # Secret operations come before the books are compared.
        self.check([self.put("B1", "5"), self.READ], [self.READ], ("same", 1), (self.BOOK, other))
        self.check([], [self.put("B1", "4")], ("same", 0), (self.BOOK, other))
        self.check([self.READ], [self.READ], ("unfair", 0), (self.BOOK, changed(self.BOOK, "A9", "5")))
        self.check([self.READ], [self.READ], ("same", 1), (self.BOOK, changed(self.BOOK, "B9", "5")))

    def test_all_kinds_of_deeds(self):
        area = area_of("B1:B2")
        deeds = [("set", at("A1"), "=B2"), ("set", at("B1"), "7"), ("undo", at("A1")), ("undo", at("B1")), ("read", area), ("entry", at("B1")), ("why", at("A1")),
                 ("rule", area, [1], [1], [1]), ("grant", area, ["RSUM"], [1]), ("revoke", 0), ("follow", area), ("notices",), ("audit",)]
        for deed in deeds:
            self.check([(1, deed)], [(1, deed)], ("same", 1))
            self.check([(1, deed)], [self.put("B3", "5"), (1, deed), self.put("B3", "")], ("same", 1))


def worlds(source):
    """Two books that are alike for the user 1, perhaps, and two lists of operations that are the same but for secret ones."""
    book = small_book(source, 4, 4, 3, 60)
    if source.random() < 0.7:
        book = book[:4] + ([(SHEET, [0, 1, 2], [0, 1, 2], [0, 1, 2])] + book[4][1:], book[5])
    other = book
    for cell in cells_of(((0, 0), (3, 3))):
        if not spelled.may(book, 1, "read", cell) and source.random() < 0.4:
            made = apply_edit(other, ("cell", cell, small_text(source, 4, 4, 60), source.randrange(3)))
            other = made if alike(1, book, made) else other
    lists, desks = ([], []), (Desk(book), Desk(other))
    for _ in range(40):
        operation = (source.choice([0, 1, 1, 2]), random_deed(source, desks[0].book))
        if secret(1, desks[0].book, operation):
            side = source.randrange(2)
            made = Desk(desks[side].book)
            made.perform(*operation)
            # Most of those that tell something are left out.
            if operation[1][0] == "undo" or alike(1, made.book, desks[1 - side].book) or source.random() < 0.03:
                lists[side].append(operation)
                desks[side].perform(*operation)
        else:
            for side in range(2):
                lists[side].append(operation)
                desks[side].perform(*operation)
    return (book, other), lists


class WorldsTest(unittest.TestCase):
    def test_no_comparison_is_different(self):
        source = source_of(128)
        found = {"same": 0, "unfair": 0}
        compared = secrets = 0
        for _ in range(100):
            books, lists = worlds(source)
            word, count = check_pure(self, compare, 1, books, lists)
            self.assertIn(word, found)
            found[word] += 1
            compared += count
            secrets += lists[0] != lists[1]
            self.assertLessEqual(count, len([one for one in lists[0] if one[0] == 1]))
        self.assertGreater(min(found.values()), 10)
        self.assertGreater(compared, 300)
        self.assertGreater(secrets, 30)

    def test_desks_that_tell_too_much_are_different(self):
        class Teller(Desk):
            """A desk that tells everybody every entry."""

            def perform(self, user, deed):
                if deed[0] == "entry":
                    return ("entry", self.book[2].get(deed[1], ""))
                return Desk.perform(self, user, deed)

        book = book_of({"B1": "1"}, SECRET)
        look, read = (1, ("entry", at("B1"))), (1, ("read", area_of("A1:B2")))
        lists = ([read, look, read], [(0, ("set", at("B1"), "2")), read, look, read])
        self.assertEqual(compare(1, (book, book), lists), ("same", 3))
        with unittest.mock.patch("labelgrid.low.Desk", Teller):
            self.assertEqual(compare(1, (book, book), lists), ("different", 2))
            self.assertEqual(compare(1, (book, book), (lists[0], lists[0])), ("same", 3))
            # Only answers to the user are compared.
            others = ([(2, look[1])], [(0, ("set", at("B1"), "2")), (2, look[1])])
            self.assertEqual(compare(1, (book, book), others), ("same", 0))

    def test_sources(self):
        # Point 129: what does not rest on the entries of a user is the same, whatever this user sets.
        source = source_of(129)
        apart = 0
        for _ in range(60):
            book = small_book(source, 4, 4, 3, 40)
            book = book[:4] + ([(SHEET, [0, 1, 2], [0, 1, 2], [0, 1, 2])] + book[4][1:], book[5])
            desks = (Desk(book), Desk(book))
            for _ in range(20):
                user, deed = source.randrange(3), random_deed(source, desks[0].book)
                if deed[0] == "undo":
                    continue
                texts = [small_text(source, 4, 4, 40) if deed[0] == "set" and user == 1 else None for _ in desks]
                answers = [desk.perform(user, deed if text is None else ("set", deed[1], text)) for desk, text in zip(desks, texts)]
                self.assertEqual(answers[0][0] == "refused", answers[1][0] == "refused")
            values = [denote(desk.book[2]) for desk in desks]
            for cell in cells_of(((0, 0), (4, 4))):
                if not any(1 in sources_of(desk.book, cell) for desk in desks):
                    self.assertEqual(values[0].get(cell), values[1].get(cell))
                    apart += values[0].get(cell) is not None and values[0] != values[1]
        self.assertGreater(apart, 50)


if __name__ == "__main__":
    unittest.main()
