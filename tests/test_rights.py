"""Points 46 and 47."""

import unittest

from labelgrid.addresses import SHEET, cells_of, place_key, without
from labelgrid.rights import (RIGHTS, allowed, allowed_all, may, may_all, parts_by_rule, refused_parts, refused_set, rule_at)
from labelgrid.cellsets import cells_in
from tests import spelled
from tests.helpers import area_of, check_pure, random_range, small_rule, source_of


RULES = [(SHEET, [0, 1, 2], [0, 1], [0]), (area_of("B2:D4"), [0], [1], [2]), (area_of("C3:E5"), [], [0, 1, 2], [1, 2]),
         (area_of("D4:D4"), [1], [], [0])]


def random_rules(source, count):
    rules = [small_rule(source, 3, 6, 6) for _ in range(count)]
    return [(SHEET, rules[0][1], rules[0][2], rules[0][3])] + rules[1:]


class RightsTest(unittest.TestCase):
    def test_names_of_rights(self):
        self.assertEqual(RIGHTS, ["read", "write", "own"])

    def test_the_last_rule_counts(self):
        for text, index in {"A1": 0, "Z99": 0, "B2": 1, "C2": 1, "C3": 2, "D3": 2, "D4": 3, "E4": 2, "E5": 2, "F5": 0, "B4": 1}.items():
            cell = area_of(f"{text}:{text}")[0]
            self.assertEqual(check_pure(self, rule_at, RULES, cell), index, text)
            for place, right in enumerate(RIGHTS):
                users = RULES[index][place + 1]
                self.assertEqual(check_pure(self, allowed, RULES, right, cell), users)
                self.assertEqual([check_pure(self, may, RULES, user, right, cell) for user in range(4)],
                                 [user in users for user in range(4)])

    def test_a_later_rule_for_the_whole_sheet(self):
        rules = RULES + [(SHEET, [2], [], [])]
        self.assertEqual((rule_at(rules, (3, 3)), allowed(rules, "read", (0, 0)), allowed(rules, "own", (3, 3))), (4, [2], []))
        self.assertEqual(parts_by_rule(rules, area_of("A1:Z9")), [(area_of("A1:Z9"), 4)])

    def check_parts(self, rules, place):
        parts = check_pure(self, parts_by_rule, rules, place)
        cells = [cell for part, _ in parts for cell in cells_of(part)]
        self.assertEqual(sorted(cells, key=place_key), cells_of(place))
        self.assertEqual(parts, sorted(parts, key=lambda pair: place_key(pair[0][0])))
        for part, index in parts:
            self.assertEqual({rule_at(rules, cell) for cell in cells_of(part)}, {index})
        return parts

    def test_parts(self):
        self.assertEqual(self.check_parts(RULES, area_of("A1:A9")), [(area_of("A1:A9"), 0)])
        self.assertEqual(self.check_parts(RULES, area_of("D4:D4")), [(area_of("D4:D4"), 3)])
        self.assertEqual(self.check_parts(RULES, area_of("B2:B4")), [(area_of("B2:B4"), 1)])
        self.assertEqual(self.check_parts(RULES, area_of("A3:C3")), [(area_of("A3:A3"), 0), (area_of("B3:B3"), 1), (area_of("C3:C3"), 2)])
        self.check_parts(RULES, area_of("A1:F6"))
        self.check_parts(RULES, SHEET)
        self.check_parts(RULES[:1], SHEET)

    def test_rights_on_ranges(self):
        self.assertIs(may_all(RULES, 0, "read", area_of("A1:B3")), True)
        self.assertIs(may_all(RULES, 0, "read", area_of("A1:C3")), False)
        self.assertIs(may_all(RULES, 1, "read", area_of("D4:D4")), True)
        self.assertIs(may_all(RULES, 1, "write", area_of("B2:C4")), True)
        self.assertIs(may_all(RULES, 1, "write", area_of("B2:D4")), False)
        self.assertIs(may_all(RULES, 7, "read", SHEET), False)
        self.assertEqual(refused_parts(RULES, 0, "read", area_of("A3:C3")), [area_of("C3:C3")])
        self.assertEqual(refused_parts(RULES, 2, "read", area_of("A3:C3")), [area_of("B3:B3"), area_of("C3:C3")])
        self.assertEqual(refused_parts(RULES, 0, "read", area_of("A1:B3")), [])
        self.assertEqual(allowed_all(RULES, "write", area_of("C2:C4"), 3), [1])
        self.assertEqual(allowed_all(RULES, "write", area_of("A1:C4"), 3), [1])
        self.assertEqual(allowed_all(RULES, "write", area_of("C3:C4"), 2), [0, 1])
        self.assertEqual(allowed_all(RULES, "own", area_of("A1:Z99"), 3), [])

    def test_against_the_words_of_the_document(self):
        source = source_of(47)
        for _ in range(150):
            rules = random_rules(source, source.randrange(1, 6))
            place = source.choice([random_range(source, 7, 7), random_range(source, 4, 4), ((0, 0), (7, 7))])
            parts = self.check_parts(rules, place)
            right = source.choice(RIGHTS)
            holders = {cell: allowed(rules, right, cell) for cell in cells_of(place)}
            for cell in holders:
                self.assertEqual(holders[cell], spelled.rule_of(("book", 3, {}, {}, rules, []), cell)[RIGHTS.index(right) + 1])
            for user in range(3):
                refused = check_pure(self, refused_parts, rules, user, right, place)
                wanted = [part for part, index in parts if user not in rules[index][RIGHTS.index(right) + 1]]
                self.assertEqual(refused, wanted)
                self.assertEqual({cell for part in refused for cell in cells_of(part)},
                                 {cell for cell in holders if user not in holders[cell]})
                self.assertEqual(check_pure(self, may_all, rules, user, right, place), refused == [])
                self.assertEqual([cell for cell in cells_in(refused_set(rules, user, right)) if cell in holders],
                                 [cell for cell in holders if user not in holders[cell]])
            self.assertEqual(check_pure(self, allowed_all, rules, right, place, 3),
                             [user for user in range(3) if all(user in users for users in holders.values())])

    def test_many_rules(self):
        source = source_of(48)
        rules = [(SHEET, [0], [0], [0])]
        for _ in range(60):
            rules.append((random_range(source), [user for user in range(3) if source.random() < 0.5], [], []))
        parts = self.check_parts(rules, SHEET)
        self.assertEqual([without(part, part) for part, _ in parts], [[]] * len(parts))

    def test_lists_are_new(self):
        rules = [(SHEET, [0, 1], [0], [0])]
        allowed(rules, "read", (0, 0)).clear()
        self.assertEqual(rules, [(SHEET, [0, 1], [0], [0])])


if __name__ == "__main__":
    unittest.main()
