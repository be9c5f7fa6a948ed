"""Points 6 to 10."""

import unittest

from labelgrid.errors import EntryError
from labelgrid.trees import RELEASED, calls_of, moved, parse_formula, parts_of, show_formula
from tests.helpers import boxes_in, check_pure, random_tree, source_of

ONE, TWO, THREE = ("num", 10000), ("num", 20000), ("num", 30000)
AREA = ((0, 0), (1, 1))
RANGED = ["SUM", "COUNT", "AVG", "MIN", "MAX", "AND", "OR", "JOIN"]
PLAIN = {"IF": 3, "LEFT": 2, "ROUND": 2, "NOT": 1, "LEN": 1, "ABS": 1}


def parsed(text):
    return parse_formula(text, 0)


class Told(unittest.TestCase):
    def told(self, text, at=0):
        with self.assertRaises(EntryError) as caught:
            parse_formula(text, at)
        return caught.exception.at

    def check_told(self, table):
        for text, at in table.items():
            self.assertEqual(self.told(text), at, text)
            self.assertEqual(self.told("=" + text, 1), at + 1, text)


class ReadTest(Told):
    def test_parts(self):
        parts = {"1.5": ("num", 15000), '"a""b"': ("text", 'a"b'), "TRUE": ("bool", True), "FALSE": ("bool", False),
                 "B7": ("ref", (1, 6)), "#REF": ("lost",), "-1": ("neg", ONE), "--1": ("neg", ("neg", ONE)),
                 "(1)": ONE, " ( ( 1 ) ) ": ONE}
        for text, tree in parts.items():
            self.assertEqual(parsed(text), tree)

    def test_operators(self):
        for sign in ["+", "-", "*", "/", "&", "=", "!=", "<", "<="]:
            self.assertEqual(parsed(f"1{sign}2"), (sign, ONE, TWO))

    def test_ranks(self):
        rising = ["<", "&", "+", "*"]
        for index, low in enumerate(rising):
            for high in rising[index + 1:]:
                self.assertEqual(parsed(f"1{low}2{high}3"), (low, ONE, (high, TWO, THREE)))
                self.assertEqual(parsed(f"1{high}2{low}3"), (low, (high, ONE, TWO), THREE))

    def test_minus_binds_most(self):
        self.assertEqual(parsed("-1*2"), ("*", ("neg", ONE), TWO))
        self.assertEqual(parsed("1*-2"), ("*", ONE, ("neg", TWO)))
        self.assertEqual(parsed("1--2"), ("-", ONE, ("neg", TWO)))

    def test_equal_ranks_from_the_left(self):
        for one, other in [("+", "-"), ("-", "+"), ("*", "/"), ("/", "*"), ("&", "&"), ("-", "-"), ("/", "/")]:
            self.assertEqual(parsed(f"1{one}2{other}3"), (other, (one, ONE, TWO), THREE))
            self.assertEqual(parsed(f"1{one}(2{other}3)"), (one, ONE, (other, TWO, THREE)))

    def test_comparisons(self):
        self.check_told({"1 < 2 < 3": 6, "1=2=3": 3, "1<=2!=3": 4, "1<2&3=4": 5, "(1<2<3)": 4, "SUM(1<2<3)": 7})
        self.assertEqual(parsed("(1<2)<3"), ("<", ("<", ONE, TWO), THREE))
        self.assertEqual(parsed("1<(2<3)"), ("<", ONE, ("<", TWO, THREE)))
        self.assertEqual(parsed("-(1<2)"), ("neg", ("<", ONE, TWO)))

    def test_each_ranged_function(self):
        for name in RANGED:
            self.assertEqual(parsed(f"{name}(1,A1:B2,#REF)"), ("call", name, [ONE, ("range", AREA), ("lost",)]))
            self.assertEqual(parsed(f"{name}(A1)"), ("call", name, [("ref", (0, 0))]))
            eight = ",".join(["1"] * 8)
            self.assertEqual(parsed(f"{name}({eight})"), ("call", name, [ONE] * 8))
            self.assertEqual(self.told(f"7+{name}({eight},1)"), 2)

    def test_each_released_function(self):
        self.assertEqual(RELEASED, ("RSUM", "RCOUNT", "RAVG", "RMIN", "RMAX"))
        for name in RELEASED:
            for text, arg in [("A1:B2", ("range", AREA)), ("A1", ("ref", (0, 0))), ("#REF", ("lost",)),
                              ("(A1)", ("ref", (0, 0)))]:
                self.assertEqual(parsed(f"{name}({text})"), ("call", name, [arg]))
            for text in ["1", '"a"', "TRUE", "A1+1", "-A1", "SUM(A1)", "(1)"]:
                self.assertEqual(self.told(f"{name}({text})"), len(name) + 1, text)
            self.assertEqual(self.told(f"1+{name}(A1,B2)"), 2)

    def test_each_plain_function(self):
        for name, count in PLAIN.items():
            args = ",".join(["1"] * count)
            self.assertEqual(parsed(f"{name}({args})"), ("call", name, [ONE] * count))
            self.assertEqual(self.told(f" {name}({args},1)"), 1)
            self.assertEqual(self.told(f"{name}(A1:B2)"), len(name) + 1)
        for name in ["IF", "LEFT", "ROUND"]:
            self.assertEqual(self.told(f"2*{name}(1)"), 2)
        self.check_told({"IF(1,2,3,4)": 0, "IF(1,2)": 0, "LEFT(1, A1:B2)": 8, "ABS(1,A1:B2)": 6})

    def test_truths_are_no_calls(self):
        self.check_told({"TRUE(1)": 4, "FALSE()": 5})


class ToldTest(Told):
    def test_tokens_come_first(self):
        self.check_told({"1 2 %": 4, ") 01": 2, 'SUM( "': 5, "1+ A0": 3})

    def test_tokens_that_do_not_fit(self):
        self.check_told({"1 2": 2, "A1 B1": 3, "1+*2": 2, "*1": 0, "1)": 1, "(1 2)": 3, "SUM 1": 4, "SUM(1 2)": 6,
                         ",": 0, "1,2": 1, "SUM(,1)": 4, "SUM(1,)": 6, "SUM(1,,2)": 6, "1:2": 1, "A1:B2": 2, "#REF1": 4,
                         "+1": 0, "=1": 0, "1+(2*)": 5, "TRUE 1": 5, "-": 1, "1 -": 3})

    def test_missing_tokens(self):
        self.check_told({"": 0, "1+": 2, "1 + ": 4, "(": 1, "(1": 2, "SUM": 3, "SUM(": 4, "SUM(1": 5, "SUM(1,": 6,
                         "SUM(A1:": 7, "-": 1, "SUM(A1:B2": 9})

    def test_empty_parentheses(self):
        self.check_told({"()": 1, "SUM()": 4, "1+( )": 4, "RSUM()": 5, "IF()": 3})

    def test_words_that_are_no_functions(self):
        self.check_told({"FOO(1)": 0, "1+X": 2, "SU(1)": 0, "REF": 0, "RIF(1)": 0, "SUM(FOO)": 4, "RJOIN(A1)": 0})

    def test_ranges(self):
        self.check_told({"SUM(B2:A1)": 7, "SUM(A2:A1)": 7, "SUM(B1:A2)": 7, "SUM(A1:1)": 7, "SUM(A1:)": 7,
                         "SUM(A1:SUM(1))": 7, "SUM(A1:B2:C3)": 9, "SUM(A1:B2+1)": 9, "SUM((A1:B2))": 7, "SUM(-A1:B2)": 7,
                         "SUM(1+A1:B2)": 8, "A1:B2": 2, "(A1:B2)": 3, "SUM(1:2)": 5, "SUM(#REF:A1)": 8, "ABS(B2:A1)": 7})
        self.assertEqual(parsed("SUM(A1 : A1)"), ("call", "SUM", [("range", ((0, 0), (0, 0)))]))

    def test_kind_is_told_before_the_count(self):
        self.check_told({"RSUM(A1,1)": 8, "IF(1,A1:B2)": 5, "RSUM(1": 5, "ABS(A1:B2": 4})

    def test_count_is_told_behind_the_last_parenthesis(self):
        self.check_told({"IF(1,2": 6, "NOT(1,2": 7, "NOT(1,2)*": 0, "NOT(1,FOO)": 6})

    def test_nesting_of_parentheses(self):
        self.assertEqual(parsed("(" * 19 + "1" + ")" * 19), ONE)
        self.check_told({"(" * 20 + "1" + ")" * 20: 20, "2*" + "(" * 20 + "1+1" + ")" * 20: 22,
                         "(" * 25 + "1" + ")" * 25: 20})

    def test_nesting_of_minus_signs(self):
        parsed("-" * 19 + "1")
        parsed("-" * 19 + "1+1-" + "-" * 18 + "1")
        self.check_told({"-" * 20 + "1": 20, "1" + "-" * 21 + "1": 22, "-" * 22: 20})

    def test_nesting_of_calls(self):
        parsed("ABS(" * 19 + "1+1*2" + ")" * 19)
        parsed("SUM(" * 19 + "A1:B2" + ")" * 19)
        self.check_told({"ABS(" * 20 + "1" + ")" * 20: 80, "SUM(" * 20 + "A1:B2" + ")" * 20: 80,
                         "SUM(" * 20 + "1,2" + ")" * 20: 80, "ABS(" * 20: 80, "ABS(" * 20 + ")": 80})

    def test_nesting_of_later_arguments(self):
        parsed("SUM(1," + "ABS(" * 18 + "1" + ")" * 19)
        parsed("SUM(1,A1:B2,2," + "-" * 18 + "1)")
        self.check_told({"SUM(1," + "ABS(" * 19 + "1" + ")" * 20: 82, "SUM(1,2," + "-" * 19 + "1)": 27})

    def test_nesting_of_all_kinds(self):
        parsed("-(ABS(" * 6 + "-1" + "))" * 6)
        parsed("-(ABS(" * 6 + "-1*2" + "))" * 6 + "+(1)")
        self.check_told({"-(ABS(" * 6 + "-(1)" + "))" * 6: 38, "-(ABS(" * 6 + "--1" + "))" * 6: 38,
                         "-(ABS(" * 6 + "((-1))" + "))" * 6: 38})

    def test_operators_do_not_nest(self):
        text = "+".join(["1"] * 200)
        tree = parsed(text)
        self.assertEqual(show_formula(tree).replace(" ", ""), text)
        parsed("1<2&3+4*-" + "(" * 18 + "1<2&3+4*5" + ")" * 18)

    def test_long_texts(self):
        self.assertEqual(parsed('"' + "x" * 60 + '"'), ("text", "x" * 60))
        self.assertEqual(self.told('1&"' + "x" * 61 + '"'), 2)

    def test_any_text_is_read_or_told(self):
        source = source_of(8)
        words = ["1", "A1", "B2", ":", ",", "(", ")", "+", "-", "*", "<", "=", "&", "SUM", "RSUM", "IF", "TRUE", '"x"', "#REF",
                 " ", "FOO", "%"]
        for _ in range(4000):
            text = "".join([source.choice(words) for _ in range(source.randrange(9))])
            try:
                tree = parsed(text)
                self.assertEqual(parsed(show_formula(tree)), tree)
            except EntryError as error:
                self.assertLessEqual(0, error.at)
                self.assertLessEqual(error.at, len(text))


class ShowTest(unittest.TestCase):
    def test_example(self):
        self.assertEqual(show_formula(parsed("(1+2)*-SUM(A1:B2,7)")), "(1 + 2) * -SUM(A1:B2, 7)")

    def test_shown(self):
        shown = {"1+2*3": "1 + 2 * 3", "(1+2)*3": "(1 + 2) * 3", "(1*2)+3": "1 * 2 + 3", "1-(2-3)": "1 - (2 - 3)",
                 "(1-2)-3": "1 - 2 - 3", "1+(2+3)": "1 + (2 + 3)", "1/(2*3)": "1 / (2 * 3)", "1&(2&3)": "1 & (2 & 3)",
                 "(1<2)<3": "(1 < 2) < 3", "1<(2<3)": "1 < (2 < 3)", "(1<2)&3": "(1 < 2) & 3", "1&(2<3)": "1 & (2 < 3)",
                 "1<(2&3)": "1 < 2 & 3", "(1&2)+3": "(1 & 2) + 3", "(1=2)!=(3<=4)": "(1 = 2) != (3 <= 4)",
                 "-(1*2)": "-(1 * 2)", "-(-1)": "--1", "(-1)*2": "-1 * 2", "1--2": "1 - -2", "-(1<2)": "-(1 < 2)",
                 "-(SUM(1))": "-SUM(1)", "1.50": "1.5", "SUM( 1 ,A1 : B2,  #REF )": "SUM(1, A1:B2, #REF)",
                 '"a""b"&""': '"a""b" & ""', "IF(TRUE,FALSE,(1))": "IF(TRUE, FALSE, 1)", "1*(2*3)/4": "1 * (2 * 3) / 4",
                 "RSUM((B7))": "RSUM(B7)", "(((1)))": "1"}
        for text, wanted in shown.items():
            self.assertEqual(show_formula(parsed(text)), wanted)
            self.assertEqual(parsed(wanted), parsed(text))

    def test_random_trees_are_read_back(self):
        source = source_of(9)
        for _ in range(1500):
            tree = random_tree(source, 4)
            self.assertEqual(parsed(show_formula(tree)), tree)


class InsideTest(unittest.TestCase):
    def test_parts(self):
        self.assertEqual(parts_of(parsed("1+2*3")), [ONE, ("*", TWO, THREE)])
        self.assertEqual(parts_of(parsed("-(1+2)")), [("+", ONE, TWO)])
        self.assertEqual(parts_of(parsed("SUM(1,A1:B2,A1)")), [ONE, ("range", AREA), ("ref", (0, 0))])
        for text in ["1", '"a"', "TRUE", "A1", "#REF"]:
            self.assertEqual(parts_of(parsed(text)), [])
        self.assertEqual(parts_of(("range", AREA)), [])

    def test_calls(self):
        calls = calls_of(parsed("SUM(ABS(1),-MAX(LEN(2)))+MIN(3)*NOT(4)"))
        self.assertEqual([call[1] for call in calls], ["SUM", "ABS", "MAX", "LEN", "MIN", "NOT"])
        self.assertEqual(calls[3], ("call", "LEN", [TWO]))
        self.assertEqual(calls_of(parsed("1+A1")), [])
        self.assertEqual([call[1] for call in calls_of(parsed("IF(ABS(1),LEN(2),RSUM(A1:B2))"))],
                         ["IF", "ABS", "LEN", "RSUM"])

    def test_nothing_is_shared(self):
        tree = parsed("SUM(ABS(1),MAX(2,A1:B2))+MIN(3)")
        for function in (parts_of, calls_of):
            found = check_pure(self, function, tree)
            self.assertEqual([box for part in found for box in boxes_in(part) if box in boxes_in(tree)], [])
        check_pure(self, moved, tree, (0, 0))
        check_pure(self, show_formula, tree)

    def test_long_sums(self):
        text = "ABS(A1)" + "+ABS(A1)" * 40
        self.assertEqual(len(calls_of(parsed(text))), 41)
        long = parsed("+".join(["A1"] * 133))
        self.assertEqual(show_formula(moved(long, (1, 0))), " + ".join(["B1"] * 133))
        self.assertEqual(len(parts_of(long)), 2)


class MovedTest(unittest.TestCase):
    def test_example(self):
        self.assertEqual(show_formula(moved(parsed("(1+2)*-SUM(A1:B2,7)"), (1, 2))), "(1 + 2) * -SUM(B3:C4, 7)")

    def test_everything_moves(self):
        tree = parsed('IF(-A1<B2,SUM(C3:D4,E5),RSUM(F6))&"A1"&#REF&TRUE&1')
        self.assertEqual(show_formula(moved(tree, (2, 1))),
                         'IF(-C2 < D3, SUM(E4:F5, G6), RSUM(H7)) & "A1" & #REF & TRUE & 1')

    def test_edges(self):
        self.assertEqual(moved(parsed("B2"), (-1, -1)), ("ref", (0, 0)))
        self.assertEqual(moved(parsed("B2"), (24, 97)), ("ref", (25, 98)))
        for by in [(-2, 0), (0, -2), (25, 0), (0, 98), (-5, -5)]:
            self.assertIsNone(moved(parsed("B2"), by), by)

    def test_ranges_at_the_edges(self):
        tree = parsed("SUM(B2:Y98)")
        self.assertEqual(show_formula(moved(tree, (1, 1))), "SUM(C3:Z99)")
        self.assertEqual(show_formula(moved(tree, (-1, -1))), "SUM(A1:X97)")
        for by in [(2, 0), (0, 2), (-2, 0), (0, -2)]:
            self.assertIsNone(moved(tree, by), by)

    def test_one_address_that_leaves_is_enough(self):
        for text in ["C3+A1", "A1+C3", "-A1", "SUM(C3,A1)", "1<2&A1*3", "IF(C3,C3,ABS(A1))", "RSUM(A1)"]:
            self.assertIsNone(moved(parsed(text), (-1, 0)), text)
        self.assertEqual(moved(parsed("1+#REF"), (-30, -200)), parsed("1+#REF"))


if __name__ == "__main__":
    unittest.main()
