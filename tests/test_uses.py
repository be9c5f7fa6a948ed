"""Point 40."""

import unittest

from labelgrid.addresses import parse_range
from labelgrid.trees import RELEASED, calls_of, parse_formula
from labelgrid.uses import range_of, used_ranges, uses_of
from tests import spelled
from tests.helpers import check_pure, random_tree, source_of


class UsesTest(unittest.TestCase):
    def check(self, table):
        for text, wanted in table.items():
            tree = parse_formula(text, 0)
            wanted = [(parse_range(area), node) for area, node in wanted]
            self.assertEqual(check_pure(self, uses_of, tree), wanted, text)
            self.assertEqual(check_pure(self, used_ranges, tree), [area for area, _ in wanted])

    def test_example(self):
        tree = ("+", ("ref", (0, 0)), ("call", "SUM", [("call", "RSUM", [("range", ((0, 1), (1, 2)))]), ("range", ((2, 0), (2, 3)))]))
        self.assertEqual(uses_of(tree), [(((0, 0), (0, 0)), None), (((0, 1), (1, 2)), 1), (((2, 0), (2, 3)), None)])

    def test_no_uses(self):
        self.check({"1": [], '"A1"': [], "TRUE": [], "#REF": [], "-1 + 2": [], "SUM(#REF, 1)": [], "RSUM(#REF)": [],
                    "IF(TRUE, #REF, 2)": []})

    def test_uses_by_itself(self):
        self.check({"A1": [("A1:A1", None)], "A1 + A1": [("A1:A1", None)] * 2, "-B2": [("B2:B2", None)],
                    "SUM(A1:B2, C3)": [("A1:B2", None), ("C3:C3", None)], "NOT(A1)": [("A1:A1", None)],
                    "A1 * (B1 - C1)": [("A1:A1", None), ("B1:B1", None), ("C1:C1", None)], "MAX(A1:A1)": [("A1:A1", None)],
                    "JOIN(A1:Z99)": [("A1:Z99", None)]})

    def test_each_released_function(self):
        self.assertEqual(len(RELEASED), 5)
        for name in RELEASED:
            self.check({f"{name}(A1:B2)": [("A1:B2", 0)], f"{name}(C3)": [("C3:C3", 0)], f"{name}((C3))": [("C3:C3", 0)],
                        f"{name}(#REF)": [], f"1 + {name}(A1:B2)": [("A1:B2", 0)]})

    def test_nodes_are_numbered_in_the_order_of_the_text(self):
        self.check({"RSUM(A1:A2) + RMAX(B1)": [("A1:A2", 0), ("B1:B1", 1)],
                    "SUM(1) + RSUM(A1)": [("A1:A1", 1)],
                    "RSUM(#REF) + RSUM(A1)": [("A1:A1", 1)],
                    "SUM(RSUM(A1), A2, RSUM(A3)) + RSUM(A4)": [("A1:A1", 1), ("A2:A2", None), ("A3:A3", 2), ("A4:A4", 3)],
                    "ABS(ABS(RSUM(A1)) + A2) * RMIN(A3:A4)": [("A1:A1", 2), ("A2:A2", None), ("A3:A4", 3)],
                    "A1 + -(RSUM(A2) - A3)": [("A1:A1", None), ("A2:A2", 0), ("A3:A3", None)]})

    def test_branches_that_are_not_looked_at(self):
        self.check({"IF(TRUE, A1, B1)": [("A1:A1", None), ("B1:B1", None)],
                    "IF(FALSE, RSUM(A1:A2), IF(A3, RMAX(A4), A5))":
                    [("A1:A2", 1), ("A3:A3", None), ("A4:A4", 3), ("A5:A5", None)],
                    "OR(TRUE, A1:A2, B1)": [("A1:A2", None), ("B1:B1", None)]})

    def test_equal_uses_stand_each_for_itself(self):
        self.check({"A1 + SUM(A1:A1, A1) + RSUM(A1) + RSUM(A1)":
                    [("A1:A1", None), ("A1:A1", None), ("A1:A1", None), ("A1:A1", 1), ("A1:A1", 2)]})

    def test_long_formulas(self):
        tree = parse_formula(" + ".join(["A1"] * 66 + ["RSUM(A2)"]), 0)
        self.assertEqual(uses_of(tree)[-2:], [(((0, 0), (0, 0)), None), (((0, 1), (0, 1)), 0)])
        self.assertEqual(len(uses_of(tree)), 67)

    def test_range_of(self):
        area = ((1, 2), (3, 4))
        self.assertEqual(range_of(("range", area)), area)
        self.assertEqual(range_of(("ref", (1, 2))), ((1, 2), (1, 2)))
        for tree in [("num", 1), ("text", "A1"), ("bool", True), ("lost",), ("neg", ("ref", (0, 0))),
                     ("+", ("ref", (0, 0)), ("num", 1)), ("call", "SUM", [("ref", (0, 0))])]:
            self.assertIsNone(check_pure(self, range_of, tree))

    def test_against_the_words_of_the_document(self):
        source = source_of(40)
        for _ in range(500):
            tree = random_tree(source, 4)
            found = check_pure(self, uses_of, tree)
            self.assertEqual(found, [(area, node) for area, node, _ in spelled.uses(tree)])
            for area, node in found:
                if node is not None:
                    call = calls_of(tree)[node]
                    self.assertEqual((call[1] in RELEASED, range_of(call[2][0])), (True, area))

    def test_lists_are_new_each_time(self):
        tree = parse_formula("SUM(A1, A2)", 0)
        used_ranges(tree).clear()
        uses_of(tree).clear()
        self.assertEqual(len(used_ranges(tree)), 2)


if __name__ == "__main__":
    unittest.main()
