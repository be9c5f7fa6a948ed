"""Points 13 to 15."""

import unittest

from labelgrid.functions import apply_function, apply_operator, negated
from labelgrid.numbers import MOST
from tests.helpers import check_pure, num

ZERO, RANGE, VALUE = ("error", "zero"), ("error", "range"), ("error", "value")
NAME, CYCLE = ("error", "name"), ("error", "cycle")
TRUE, FALSE = ("bool", True), ("bool", False)
SIGNS = ["+", "-", "*", "/", "&", "=", "!=", "<", "<="]
RANGED = ["SUM", "COUNT", "AVG", "MIN", "MAX", "AND", "OR", "JOIN"]
RELEASED = ["RSUM", "RCOUNT", "RAVG", "RMIN", "RMAX"]


def text(characters):
    return ("text", characters)


def one(value):
    return ("one", value)


def many(*values):
    return ("many", list(values))


class OperatorTest(unittest.TestCase):
    def check(self, table):
        for (sign, a, b), wanted in table.items():
            self.assertEqual(apply_operator(sign, a, b), wanted, (sign, a, b))

    def test_errors_of_both_sides(self):
        for sign in SIGNS:
            self.check({(sign, ZERO, NAME): ZERO, (sign, NAME, ZERO): NAME, (sign, CYCLE, text("a")): CYCLE,
                        (sign, text("a"), CYCLE): CYCLE, (sign, None, RANGE): RANGE, (sign, VALUE, None): VALUE,
                        (sign, num(1), NAME): NAME})

    def test_numbers(self):
        self.check({("+", num(1), num(2)): num(3), ("-", num(1), num(2)): num(-1), ("*", num(3), num(-2)): num(-6),
                    ("/", num(3), num(2)): ("num", 15000), ("/", num(2), num(-3)): ("num", -6667),
                    ("*", ("num", 1), ("num", 5000)): ("num", 1), ("*", ("num", -1), ("num", 5000)): ("num", -1),
                    ("/", num(1), num(0)): ZERO, ("/", num(1), None): ZERO, ("/", None, num(1)): num(0)})

    def test_blanks_are_zero(self):
        self.check({("+", None, None): num(0), ("+", None, num(2)): num(2), ("-", None, num(2)): num(-2),
                    ("*", None, num(2)): num(0), ("-", num(2), None): num(2)})

    def test_numbers_are_needed(self):
        for sign in ["+", "-", "*", "/"]:
            for wrong in [text("1"), text(""), TRUE, FALSE]:
                self.check({(sign, wrong, num(5)): VALUE, (sign, num(5), wrong): VALUE, (sign, wrong, None): VALUE,
                            (sign, wrong, wrong): VALUE, (sign, wrong, num(0)): VALUE})

    def test_range(self):
        most, least, unit = ("num", MOST), ("num", -MOST), ("num", 1)
        self.check({("+", most, unit): RANGE, ("+", least, unit): ("num", 1 - MOST), ("-", least, unit): RANGE,
                    ("-", most, least): RANGE, ("*", most, num(2)): RANGE, ("/", most, unit): RANGE, ("*", most, num(-1)): least,
                    ("+", most, least): num(0), ("/", least, ("num", 5000)): RANGE, ("-", num(0), least): most})

    def test_texts(self):
        self.check({("&", text("a"), text("b")): text("ab"), ("&", num(1), TRUE): text("1TRUE"), ("&", None, None): text(""),
                    ("&", ("num", -12500), FALSE): text("-1.25FALSE"), ("&", None, text("x")): text("x"),
                    ("&", text("x" * 60), None): text("x" * 60), ("&", text("x" * 60), text("y")): RANGE,
                    ("&", text("x" * 59), num(1)): text("x" * 59 + "1"), ("&", text("x" * 59), num(12)): RANGE})

    def test_same(self):
        values = [None, num(0), num(1), text(""), text("0"), text("a"), text("A"), FALSE, TRUE]
        for at, a in enumerate(values):
            for to, b in enumerate(values):
                self.check({("=", a, b): ("bool", at == to), ("!=", a, b): ("bool", at != to)})

    def test_order(self):
        for low, high in [(num(1), num(2)), (num(-1), num(0)), (text("B"), text("a")), (text(""), text("a")),
                          (text("ab"), text("b")), (text("10"), text("9")), (FALSE, TRUE)]:
            self.check({("<", low, high): TRUE, ("<=", low, high): TRUE, ("<", high, low): FALSE, ("<=", high, low): FALSE,
                        ("<", low, low): FALSE, ("<=", low, low): TRUE})

    def test_order_of_blanks(self):
        self.check({("<", None, num(5)): TRUE, ("<", None, num(-1)): FALSE, ("<", None, num(0)): FALSE,
                    ("<=", None, num(0)): TRUE, ("<=", num(0), None): TRUE, ("<", num(-1), None): TRUE,
                    ("<", None, text("a")): TRUE, ("<", None, text("")): FALSE, ("<=", text(""), None): TRUE,
                    ("<", text("a"), None): FALSE, ("<", None, TRUE): TRUE, ("<", None, FALSE): FALSE,
                    ("<=", FALSE, None): TRUE, ("<=", TRUE, None): FALSE, ("<", None, None): FALSE, ("<=", None, None): TRUE})

    def test_other_pairs_have_no_order(self):
        values = [num(1), text("1"), TRUE]
        for a in values:
            for b in values:
                if a != b:
                    self.check({("<", a, b): VALUE, ("<=", a, b): VALUE})

    def test_minus_sign(self):
        for value, wanted in [(num(5), num(-5)), (("num", -1), ("num", 1)), (None, num(0)), (text("1"), VALUE), (TRUE, VALUE),
                              (ZERO, ZERO), (CYCLE, CYCLE), (("num", MOST), ("num", -MOST)), (("num", -MOST), ("num", MOST))]:
            self.assertEqual(negated(value), wanted)


class FunctionTest(unittest.TestCase):
    def check(self, name, table):
        for args, wanted in table:
            self.assertEqual(check_pure(self, apply_function, name, args), wanted, (name, args))

    def test_first_error(self):
        for name in RANGED:
            self.check(name, [([one(ZERO), one(NAME)], ZERO), ([one(text("a")), one(NAME)], NAME),
                              ([many(num(1), NAME, ZERO), one(CYCLE)], NAME), ([many(None, TRUE), many(text("x"), RANGE)], RANGE),
                              ([one(None), many(), one(VALUE), one(ZERO)], VALUE)])
        for name in RELEASED:
            self.check(name, [([many(text("a"), NAME, ZERO)], NAME)])
        for name in ["NOT", "LEN", "ABS"]:
            self.check(name, [([one(NAME)], NAME)])
        for name in ["LEFT", "ROUND"]:
            self.check(name, [([one(NAME), one(ZERO)], NAME), ([one(TRUE), one(ZERO)], ZERO), ([one(CYCLE), one(TRUE)], CYCLE)])

    def test_example(self):
        self.check("AVG", [([many(num(1), None, text("x")), one(num(2))], ("num", 15000))])

    def test_numbers_of_ranges(self):
        mixed = many(num(4), None, text("9"), TRUE, num(-2), text(""), FALSE)
        wanted = {"SUM": num(2), "COUNT": num(2), "AVG": num(1), "MIN": num(-2), "MAX": num(4)}
        for name, value in wanted.items():
            self.check(name, [([mixed], value)])
            self.check("R" + name, [([mixed], value)])

    def test_no_numbers(self):
        wanted = {"SUM": num(0), "COUNT": num(0), "AVG": ZERO, "MIN": num(0), "MAX": num(0)}
        for name, value in wanted.items():
            for values in [many(None, text("1"), TRUE), many(None), many(text("x"))]:
                self.check(name, [([values], value)])
                self.check("R" + name, [([values], value)])

    def test_trees_need_numbers(self):
        wanted = {"SUM": num(6), "COUNT": num(4), "AVG": ("num", 15000), "MIN": num(-1), "MAX": num(5)}
        for name, value in wanted.items():
            self.check(name, [([one(num(5)), many(num(2), text("9")), one(num(-1)), one(None)], value)])
            for wrong in [text("1"), text(""), TRUE]:
                self.check(name, [([one(wrong)], VALUE), ([many(num(1)), one(wrong)], VALUE), ([one(wrong), one(ZERO)], ZERO)])
        self.check("COUNT", [([one(None)], num(1)), ([one(None), one(None), many(None)], num(2))])
        self.check("AVG", [([one(None)], num(0))])
        self.check("MIN", [([many(num(3)), one(None)], num(0)), ([many(num(3), num(2))], num(2))])
        self.check("MAX", [([many(num(-3)), one(None)], num(0)), ([many(num(-3), num(-2))], num(-2))])

    def test_rounded_averages(self):
        self.check("AVG", [([many(("num", 1), ("num", 2))], ("num", 2)), ([many(("num", -1), ("num", -2))], ("num", -2)),
                           ([many(("num", 1), ("num", 0), ("num", 0))], ("num", 0)), ([many(num(1), num(1), num(0))], ("num", 6667))])

    def test_sums_at_the_edges(self):
        most, least, unit = ("num", MOST), ("num", -MOST), ("num", 1)
        self.check("SUM", [([many(most, unit)], RANGE), ([many(least), one(("num", -1))], RANGE), ([many(most, unit, least)], unit),
                           ([one(most)], most), ([many(most), one(least)], num(0))])
        self.check("RSUM", [([many(most, most)], RANGE)])
        self.check("AVG", [([many(most, most)], most)])
        self.check("MAX", [([many(most, least)], most)])
        self.check("MIN", [([many(most, least)], least)])

    def test_truths(self):
        self.check("AND", [([one(TRUE), one(TRUE)], TRUE), ([one(TRUE), one(FALSE)], FALSE), ([one(None)], FALSE),
                           ([many(None, TRUE)], TRUE), ([many(None)], TRUE), ([many(TRUE, FALSE), one(TRUE)], FALSE)])
        self.check("OR", [([one(FALSE), one(TRUE)], TRUE), ([one(FALSE)], FALSE), ([one(None)], FALSE), ([many(None)], FALSE),
                          ([many(None, TRUE)], TRUE), ([many(FALSE, FALSE), one(None)], FALSE)])
        for name in ["AND", "OR"]:
            for wrong in [num(1), num(0), text("TRUE"), text("")]:
                self.check(name, [([one(wrong)], VALUE), ([many(TRUE, wrong)], VALUE), ([one(TRUE), many(None, wrong)], VALUE),
                                  ([one(FALSE), one(wrong)], VALUE), ([one(wrong), one(ZERO)], ZERO)])

    def test_join(self):
        self.check("JOIN", [([one(text("a")), many(num(1), None, TRUE), one(None), one(("num", -5000))], text("a1TRUE-0.5")),
                            ([many(None)], text("")), ([one(text("x" * 60)), many(None)], text("x" * 60)),
                            ([one(text("x" * 60)), one(num(1))], RANGE), ([many(text("x" * 30), text("x" * 31))], RANGE)])

    def test_not(self):
        self.check("NOT", [([one(TRUE)], FALSE), ([one(FALSE)], TRUE), ([one(None)], TRUE), ([one(num(0))], VALUE),
                           ([one(text("TRUE"))], VALUE)])

    def test_len(self):
        self.check("LEN", [([one(text("abc"))], num(3)), ([one(text(""))], num(0)), ([one(None)], num(0)), ([one(TRUE)], num(4)),
                           ([one(FALSE)], num(5)), ([one(("num", -12500))], num(5)), ([one(text("x" * 60))], num(60))])

    def test_left(self):
        self.check("LEFT", [([one(text("abc")), one(num(2))], text("ab")), ([one(text("abc")), one(num(9))], text("abc")),
                            ([one(text("abc")), one(num(0))], text("")), ([one(text("abc")), one(None)], text("")),
                            ([one(num(123)), one(num(2))], text("12")), ([one(TRUE), one(num(1))], text("T")),
                            ([one(None), one(num(1))], text("")), ([one(text("x" * 60)), one(num(60))], text("x" * 60)),
                            ([one(text("abc")), one(("num", MOST))], text("abc"))])
        for wrong in [num(-1), ("num", 15000), ("num", 1), ("num", -1), text("1"), TRUE]:
            self.check("LEFT", [([one(text("abc")), one(wrong)], VALUE)])

    def test_abs(self):
        self.check("ABS", [([one(num(-5))], num(5)), ([one(num(5))], num(5)), ([one(None)], num(0)), ([one(text("1"))], VALUE),
                           ([one(TRUE)], VALUE), ([one(("num", -MOST))], ("num", MOST))])

    def test_round(self):
        self.check("ROUND", [([one(("num", 12345)), one(num(2))], ("num", 12300)), ([one(("num", 12350)), one(num(2))], ("num", 12400)),
                             ([one(("num", -12350)), one(num(2))], ("num", -12400)), ([one(("num", 12345)), one(num(4))], ("num", 12345)),
                             ([one(num(15)), one(num(-1))], num(20)), ([one(num(-15)), one(num(-1))], num(-20)),
                             ([one(num(14)), one(num(-1))], num(10)), ([one(num(500000)), one(num(-6))], num(1000000)),
                             ([one(("num", 15000)), one(None)], num(2)), ([one(None), one(num(1))], num(0)),
                             ([one(("num", 4999)), one(num(0))], num(0)), ([one(("num", MOST)), one(num(-6))], ("num", MOST))])
        for wrong in [num(5), num(-7), ("num", 5000), ("num", -5000), text("1"), TRUE]:
            self.check("ROUND", [([one(num(1)), one(wrong)], VALUE)])
        for wrong in [text("1"), TRUE, text("")]:
            self.check("ROUND", [([one(wrong), one(num(1))], VALUE)])


if __name__ == "__main__":
    unittest.main()
