"""Point 16, with points 13 to 15."""

import unittest

from labelgrid.entries import parse_entry
from labelgrid.evaluating import entry_value, evaluate
from labelgrid.numbers import MOST
from labelgrid.trees import parse_formula
from tests.helpers import check_pure, num, random_tree, source_of

ZERO, RANGE, VALUE = ("error", "zero"), ("error", "range"), ("error", "value")
NAME, CYCLE = ("error", "name"), ("error", "cycle")
TRUE, FALSE = ("bool", True), ("bool", False)


# A1 2, B1 0.5, C1 blank, A2 a text, B2 True, C2 blank, A3 and B3 errors.
VALUES = {(0, 0): num(2), (1, 0): ("num", 5000), (0, 1): ("text", "x"), (1, 1): TRUE, (0, 2): ZERO, (1, 2): CYCLE}


class EvaluateTest(unittest.TestCase):
    def check(self, table):
        for text, wanted in table.items():
            tree = parse_formula(text, 0)
            self.assertEqual(check_pure(self, evaluate, tree, VALUES), wanted, text)

    def test_example(self):
        values = {(0, 0): num(2), (1, 0): ("num", 5000)}
        self.assertEqual(evaluate(parse_formula("IF(A1 <= 2, SUM(A1:B1), 1 / 0)", 0), values), ("num", 25000))

    def test_parts(self):
        self.check({"1.5": ("num", 15000), '"a"': ("text", "a"), "TRUE": TRUE, "A1": num(2), "A2": ("text", "x"), "B2": TRUE,
                    "C1": None, "Z99": None, "#REF": NAME, "A3": ZERO, "B3": CYCLE, "(C1)": None})

    def test_operators(self):
        self.check({"1+2*3": num(7), "(1+2)*3": num(9), "7-2-1": num(4), "8/2/2": num(2), "-A1": num(-2), "--A1": num(2),
                    "-2*3": num(-6), "A1&A2&B2&C1": ("text", "2xTRUE"), "1+1=2": TRUE, "1<2&3": VALUE, "2<=A1": TRUE,
                    "A1!=2": FALSE, "C1=0": FALSE, "C1<=0": TRUE, "-C1": num(0), "1/3": ("num", 3333), "2/3": ("num", 6667),
                    "-2/3": ("num", -6667), "A2+1": VALUE, "-A2": VALUE, "-B2": VALUE, "1/0": ZERO, "1/C1": ZERO,
                    "99999999999*99999999999": RANGE, "(1<2)=TRUE": TRUE, "C2&C1": ("text", "")})

    def test_left_error_first(self):
        self.check({"A3+B3": ZERO, "B3+A3": CYCLE, "#REF&A3": NAME, "1/0+#REF": ZERO, "#REF=#REF": NAME, "A2+#REF": NAME,
                    "-#REF": NAME, "A2+1+#REF": VALUE, "A3<B3": ZERO, "1&(2+#REF)&A3": NAME})

    def test_ranges_are_read_row_by_row(self):
        self.check({"SUM(A1:C1)": ("num", 25000), "SUM(A1:C2)": ("num", 25000), "SUM(A1:B3)": ZERO, "SUM(B1:B3)": CYCLE,
                    "SUM(B3,A3)": CYCLE, "JOIN(A1:B2)": ("text", "20.5xTRUE"), "SUM(A1:A2,B3,A3)": CYCLE,
                    "COUNT(A1:C2)": num(2), "SUM(C1:C2)": num(0), "AVG(C1:C2)": ZERO, "JOIN(A1:A2,B1:B2)": ("text", "2x0.5TRUE")})

    def test_functions(self):
        self.check({"SUM(A1,B1,C1)": ("num", 25000), "SUM(A2)": VALUE, "SUM(A1:A1)": num(2), "SUM(A2:A2)": num(0),
                    "COUNT(C1)": num(1), "COUNT(C1:C1)": num(0), "MIN(A1:B2,-1)": num(-1), "MAX(A1:B2)": num(2),
                    "AVG(A1:B1)": ("num", 12500), "AND(B2,1<2)": TRUE, "OR(B2,FALSE)": TRUE, "AND(B2:C2)": TRUE, "OR(A2:B2)": VALUE,
                    "NOT(B2)": FALSE, "NOT(C2)": TRUE, "LEN(A2&B2)": num(5), 'LEFT("abc",A1)': ("text", "ab"),
                    "ABS(-A1)": num(2), "ROUND(2/3,1)": ("num", 7000), "ROUND(-0.5,0)": num(-1), "ROUND(5,-1)": num(10),
                    "ABS(#REF)": NAME, "SUM(#REF,A3)": NAME, "JOIN(1/0,#REF)": ZERO})

    def test_released_functions(self):
        self.check({"RSUM(A1:C2)": ("num", 25000), "RCOUNT(A1:B2)": num(2), "RAVG(A1:B1)": ("num", 12500), "RMIN(A1:B1)": ("num", 5000),
                    "RMAX(A1:B1)": num(2), "RSUM(A1)": num(2), "RSUM(A2)": num(0), "RCOUNT(A2)": num(0), "RCOUNT(C1)": num(0),
                    "RAVG(C1)": ZERO, "RMAX(B2)": num(0), "RSUM(A3)": ZERO, "RSUM(#REF)": NAME, "RMAX(#REF)": NAME,
                    "RSUM(A1:B3)": ZERO, "SUM(RSUM(A1:B1),1)": ("num", 35000)})

    def test_branches_that_are_not_looked_at(self):
        self.check({"IF(TRUE,1,1/0)": num(1), "IF(FALSE,#REF,2)": num(2), "IF(C1,A3,A1)": num(2), "IF(TRUE,A3,1)": ZERO,
                    "IF(FALSE,1,B3)": CYCLE, "IF(A3,1,2)": ZERO, "IF(#REF,A3,B3)": NAME, "IF(1,1,2)": VALUE, 'IF("TRUE",1,2)': VALUE,
                    "IF(A1<1,A3,IF(B2,C1,A3))": None, "1+IF(B2,A1,A3)": num(3), "IF(0,A3,A3)": VALUE})

    def test_texts_of_60_and_61_characters(self):
        long = "x" * 30
        self.check({f'"{long}"&"{long}"': ("text", long * 2), f'"{long}"&"{long}"&1': RANGE, f'JOIN("{long}","{long}",C1)':
                    ("text", long * 2), f'JOIN("{long}","{long}",1)': RANGE, f'LEN("{long}"&"{long}")': num(60),
                    f'IF(TRUE,1,"{long}"&"{long}"&1)': num(1)})

    def test_numbers_at_the_edges(self):
        self.check({"100000000000": ("num", MOST), "100000000000+0.0001": RANGE, "-100000000000-0.0001": RANGE,
                    "100000000000+0.0001-1": RANGE, "SUM(100000000000,0.0001,-1)": ("num", MOST - 9999), "-100000000000": ("num", -MOST),
                    "100000000000*1.0001": RANGE, "100000000000/0.9999": RANGE, "0.0001*0.5": ("num", 1), "0.0001*0.4999": num(0),
                    "-0.0001*0.5": ("num", -1), "0.0001/2": ("num", 1), "0.0001/-2": ("num", -1)})

    def test_long_sums(self):
        self.assertEqual(evaluate(parse_formula("+".join(["1"] * 200), 0), {}), num(200))
        self.assertEqual(evaluate(parse_formula("-".join(["1"] * 200), 0), {}), num(-198))

    def test_values_of_entries(self):
        table = {"": None, "5": num(5), "TRUE": TRUE, "abc": ("text", "abc"), "'5": ("text", "5"), "=A1*2": num(4), "=C1": None,
                 "=#REF": NAME, "=SUM(A1:B1)": ("num", 25000)}
        for text, wanted in table.items():
            self.assertEqual(check_pure(self, entry_value, parse_entry(text), VALUES), wanted)

    def test_each_tree_has_a_value(self):
        source = source_of(16)
        for _ in range(1000):
            value = check_pure(self, evaluate, random_tree(source, 4), VALUES)
            self.assertIn(value and value[0], [None, "num", "text", "bool", "error"])


if __name__ == "__main__":
    unittest.main()
