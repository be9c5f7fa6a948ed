"""Points 56 to 59."""

import itertools
import unittest

from labelgrid.addresses import SHEET, cells_of, place_key, show_address
from labelgrid.denoting import denote
from labelgrid.trust import endorsers, holds, resting_on, trust_way, trust_way_right, trusted_sources
from tests import spelled
from tests.helpers import all_at, at, book_of, check_pure, num, random_changes, small_book, source_of

EVERYBODY = [0, 1, 2]


def vouch(name, value, user):
    return ("endorsement", at(name), value, user)


def owned(entries, authors=None, rules=()):
    """A book in which everybody owns everything but for the rules."""
    return book_of(entries, [("A1:Z99", EVERYBODY, EVERYBODY, EVERYBODY)] + list(rules), authors=authors)


def random_endorsements(source, book, count):
    values = denote(book[2])
    found = []
    for _ in range(count):
        cell = (source.randrange(4), source.randrange(4))
        value = values.get(cell) if source.random() < 0.8 else source.choice([None, num(1), ("error", "cycle"), ("text", "")])
        found.append(("endorsement", cell, value, source.randrange(book[1])))
    return found


class HoldsTest(unittest.TestCase):
    BOOK = owned({"A1": "=B1+1", "B1": "4", "C1": "=C1", "D1": "=1/0", "E1": "'", "F1": "TRUE"}, {},
                 [("B1:B9", EVERYBODY, EVERYBODY, [1])])

    def check(self, name, value, user, wanted):
        found = check_pure(self, holds, self.BOOK[4], denote(self.BOOK[2]), vouch(name, value, user))
        self.assertIs(found, wanted, (name, value, user))

    def test_values(self):
        self.check("A1", num(5), 0, True)
        self.check("A1", num(4), 0, False)
        self.check("A1", None, 0, False)
        self.check("A1", ("text", "5"), 0, False)
        self.check("D1", ("error", "zero"), 2, True)
        self.check("D1", ("error", "value"), 2, False)
        self.check("F1", ("bool", True), 0, True)
        self.check("F1", num(1), 0, False)

    def test_blanks(self):
        self.check("Z9", None, 0, True)
        self.check("Z9", ("text", ""), 0, False)
        self.check("E1", ("text", ""), 0, True)
        self.check("E1", None, 0, False)

    def test_owners(self):
        self.check("B1", num(4), 1, True)
        self.check("B1", num(4), 0, False)
        self.check("B1", num(5), 1, False)
        self.check("B9", None, 1, True)
        self.check("B9", None, 2, False)

    def test_circles(self):
        self.check("C1", ("error", "cycle"), 0, False)

    def test_endorsers(self):
        listed = [vouch("B1", num(4), 1), vouch("A1", num(5), 2), vouch("A1", num(5), 0), vouch("A1", num(5), 2), vouch("A1", num(4), 1),
                  vouch("B1", num(4), 0), vouch("C1", ("error", "cycle"), 0), vouch("Z9", None, 1), vouch("D1", None, 1)]
        found = check_pure(self, endorsers, self.BOOK[4], denote(self.BOOK[2]), listed)
        self.assertEqual(found, {at("B1"): [1], at("A1"): [0, 2], at("Z9"): [1]})
        self.assertEqual(endorsers(self.BOOK[4], denote(self.BOOK[2]), []), {})


class TrustTest(unittest.TestCase):
    def check(self, book, listed, table):
        """Each address has the entries and the endorsed addresses on which it rests, and its trusted sources."""
        for name, (entries, endorsed, users) in table.items():
            found = check_pure(self, resting_on, book, listed, at(name))
            self.assertEqual(found, (all_at(entries), all_at(endorsed)), name)
            self.assertEqual(check_pure(self, trusted_sources, book, listed, at(name)), users, name)

    def test_example(self):
        whole = ((0, 0), (25, 98))
        book = ("book", 3, {(0, 0): "=B1+1", (1, 0): "=C1", (2, 0): "4"}, {(0, 0): 0, (1, 0): 1, (2, 0): 2},
                [(whole, [0, 1, 2], [], [1])], [])
        listed = [("endorsement", (1, 0), ("num", 40000), 1)]
        self.assertEqual((trusted_sources(book, [], (0, 0)), trusted_sources(book, listed, (0, 0))), ([0, 1, 2], [0, 1]))
        self.assertEqual(resting_on(book, listed, (0, 0)), ([(0, 0)], [(1, 0)]))

    def test_without_endorsements(self):
        book = owned({"A1": "=B1+RSUM(C1:D1)", "B1": "=A1", "D1": "=E1", "E2": "1"}, {"B1": 1, "D1": 2})
        self.check(book, [], {"A1": ("A1 B1 D1", "", [0, 1, 2]), "D1": ("D1", "", [2]), "E1": ("", "", []), "E2": ("E2", "", [0])})

    def test_an_endorsed_address_behind_another_one(self):
        book = owned({"A1": "=B1", "B1": "=C1", "C1": "=D1", "D1": "7", "A2": "=B1+C1"}, {"B1": 1, "C1": 2, "D1": 2})
        listed = [vouch("B1", num(7), 1), vouch("C1", num(7), 0)]
        self.check(book, listed, {"A1": ("A1", "B1", [0, 1]), "B1": ("", "B1", [1]), "C1": ("", "C1", [0]), "D1": ("D1", "", [2]),
                                  "A2": ("A2", "B1 C1", [0, 1])})

    def test_several_endorsers(self):
        book = owned({"A1": "=B1+B2", "B1": "=C1"}, {"A1": 2, "B1": 2}, [("B2:B9", EVERYBODY, EVERYBODY, [0])])
        listed = [vouch("B1", None, 1), vouch("B1", None, 0), vouch("B2", None, 1)]
        self.check(book, listed, {"A1": ("A1", "B1", [0, 1, 2]), "B1": ("", "B1", [0, 1]), "C1": ("", "", [])})

    def test_endorsements_that_do_not_hold(self):
        book = owned({"A1": "=B1", "B1": "=C1", "C1": "=B1", "D1": "=E1", "E1": "3"}, {"B1": 1, "E1": 2}, [("E1:E1", [], [], [0])])
        listed = [vouch("B1", ("error", "cycle"), 2), vouch("E1", num(3), 2), vouch("D1", num(4), 1)]
        self.check(book, listed, {"A1": ("A1 B1 C1", "", [0, 1]), "D1": ("D1 E1", "", [0, 2])})
        self.check(book, listed + [vouch("E1", num(3), 0)], {"D1": ("D1", "E1", [0])})

    def test_blanks_that_are_endorsed(self):
        book = owned({"A1": "=SUM(B1:B3)", "B2": "1"}, {"B2": 1})
        self.check(book, [vouch("B1", None, 2), vouch("B9", None, 1)],
                   {"A1": ("A1 B2", "B1", [0, 1, 2]), "B1": ("", "B1", [2]), "B9": ("", "B9", [1]), "B8": ("", "", [])})

    def test_made_up_books(self):
        source = source_of(57)
        less = 0
        for _ in range(60):
            book = small_book(source, 4, 4, 3, 30)
            listed = random_endorsements(source, book, 5)
            endorsed = spelled.vouchers(book, listed)
            for cell in source.sample(cells_of(((0, 0), (4, 4))), 6):
                below = spelled.leads_to(book, endorsed, cell)
                found = check_pure(self, resting_on, book, listed, cell)
                self.assertEqual(found, (spelled.row_by_row([one for one in below if one in book[2] and one not in endorsed]),
                                         spelled.row_by_row([one for one in below if one in endorsed])))
                users = spelled.trusted_sources(book, listed, cell)
                self.assertEqual(check_pure(self, trusted_sources, book, listed, cell), users)
                less += users != trusted_sources(book, [], cell)
        self.assertGreater(less, 20)

    def test_the_value_rests_on_these_alone(self):
        # Point 58: other entries may change as long as the endorsements hold.
        source = source_of(58)
        others = 0
        for _ in range(300):
            book = small_book(source, 4, 4, 3, 30)
            listed = random_endorsements(source, book, 6)
            cell = source.choice(sorted(book[2]))
            entries, endorsed = resting_on(book, listed, cell)
            free = [one for one in cells_of(((0, 0), (4, 4))) if one not in entries]
            used = {there for one in entries for there in spelled.used(book[2], one)} - set(endorsed) - set(entries)
            changed, _ = random_changes(source, book, 4, 4)
            kept = {one: changed[2][one] for one in changed[2] if one in free and one not in used}
            kept.update({one: book[2][one] for one in entries})
            other = ("book", 3, kept, {one: 0 for one in kept}, book[4], [])
            values = denote(kept)
            held = [one for one in listed if one[1] in endorsed and holds(book[4], denote(book[2]), one)]
            if all(holds(book[4], values, one) for one in held) and kept != book[2]:
                self.assertEqual(denote(other[2]).get(cell), denote(book[2]).get(cell))
                others += bool(held)
        self.assertGreater(others, 10)


class WayTest(unittest.TestCase):
    BOOK = owned({"A1": "=B1+B2", "B1": "=C1", "B2": "=B3", "B3": "=C1+B2", "C1": "4", "A2": "=A2+C9", "A3": "=A4"},
                 {"B1": 1, "B3": 1, "C1": 2, "A2": 1, "A3": 2})
    LISTED = [vouch("C9", None, 2), vouch("B1", num(4), 0), vouch("A4", None, 1), vouch("C1", num(5), 1)]

    def check(self, name, user, wanted, listed=()):
        found = check_pure(self, trust_way, self.BOOK, list(listed), at(name), user)
        self.assertEqual(found, all_at(wanted), (name, user))
        if wanted is not None:
            self.assertIs(check_pure(self, trust_way_right, self.BOOK, list(listed), at(name), user, found), True)

    def test_ways_to_authors(self):
        self.check("A1", 0, "A1")
        self.check("A1", 1, "A1 B1")
        self.check("A1", 2, "A1 B1 C1")
        self.check("C1", 2, "C1")
        self.check("C1", 0, None)
        self.check("A2", 2, None)
        self.check("Z9", 0, None)

    def test_ways_to_endorsers(self):
        self.check("A1", 0, "A1", self.LISTED)
        self.check("A1", 1, "A1 B2 B3", self.LISTED)
        self.check("A1", 2, "A1 B2 B3 C1", self.LISTED)
        self.check("A2", 2, "A2 C9", self.LISTED)
        self.check("B1", 0, "B1", self.LISTED)
        self.check("B1", 1, None, self.LISTED)
        self.check("A3", 1, "A3 A4", self.LISTED)
        self.check("A4", 1, "A4", self.LISTED)
        self.check("A4", 2, None, self.LISTED)

    def right(self, name, user, way, listed=()):
        return check_pure(self, trust_way_right, self.BOOK, list(listed), at(name), user, all_at(way))

    def test_lists_that_are_trust_ways(self):
        self.assertIs(self.right("A1", 1, "A1 B2 B3"), True)
        self.assertIs(self.right("A1", 1, "A1 B2 B3 B2 B3"), True)
        self.assertIs(self.right("A1", 2, "A1 B2 B3 C1"), True)
        self.assertIs(self.right("A2", 1, "A2 A2 A2"), True)
        self.assertIs(self.right("A1", 0, "A1 B1", self.LISTED), True)

    def test_lists_that_are_no_trust_ways(self):
        for way in ["", "A1", "B1", "A1 B2", "A1 C1", "A1 B3", "B2 B3", "A1 B1 C1", "A1 B2 B3 B2", "A1 B1 B3", "A1 A2"]:
            self.assertIs(self.right("A1", 1, way), False, way)
        self.assertIs(self.right("A1", 1, "A1 B1"), True)
        # B1 is endorsed by the user 0 alone, and no way goes on from it.
        self.assertIs(self.right("A1", 1, "A1 B1", self.LISTED), False)
        self.assertIs(self.right("A1", 2, "A1 B1 C1", self.LISTED), False)
        self.assertIs(self.right("A2", 0, "A2 C9", self.LISTED), False)
        self.assertIs(self.right("A3", 2, "A3 A4", self.LISTED), False)
        self.assertIs(self.right("A3", 0, "A3 A4"), False)

    def test_the_shortest_ones(self):
        source = source_of(59)
        cells = cells_of(((0, 0), (2, 2)))
        lengths = {}
        for _ in range(25):
            book = small_book(source, 3, 3, 3, 20)
            listed = random_endorsements(source, book, 4)
            for user in range(3):
                cell = source.choice(cells)
                way = check_pure(self, trust_way, book, listed, cell, user)
                self.assertEqual(way is None, user not in trusted_sources(book, listed, cell))
                lengths[way and len(way)] = True
                if way is None:
                    continue
                self.assertTrue(spelled.is_trust_way(book, listed, cell, user, way))
                if len(way) < 4:
                    shorter = [[cell] + list(rest) for rest in itertools.product(cells, repeat=max(len(way) - 2, 0))]
                    right = [one for one in shorter if trust_way_right(book, listed, cell, user, one)]
                    self.assertEqual(bool(right), len(way) == 1)
        self.assertTrue({None, 1, 2, 3} <= set(lengths))

    def test_made_up_lists(self):
        source = source_of(60)
        for _ in range(50):
            book = small_book(source, 3, 3, 2, 20)
            listed = random_endorsements(source, book, 4)
            for _ in range(10):
                way = [(source.randrange(3), source.randrange(3)) for _ in range(source.randrange(4))]
                cell = way[0] if way and source.random() < 0.9 else (0, 0)
                self.assertEqual(trust_way_right(book, listed, cell, 1, way), spelled.is_trust_way(book, listed, cell, 1, way))

    def test_long_chains(self):
        cells = cells_of(SHEET)
        book = owned({show_address(cell): f"={show_address(cells[place + 1])}" for place, cell in enumerate(cells[:-1])})
        listed = [("endorsement", cells[-1], None, 1)]
        self.assertEqual(trust_way(book, listed, cells[0], 1), cells)
        self.assertIs(trust_way_right(book, listed, cells[0], 1, cells), True)
        self.assertEqual(resting_on(book, listed, cells[0]), (sorted(cells[:-1], key=place_key), [cells[-1]]))


if __name__ == "__main__":
    unittest.main()
