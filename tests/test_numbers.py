"""Points 2 and 3, and what points 14 and 15 say of numbers."""

import unittest
from fractions import Fraction

from labelgrid.numbers import MOST, UNIT, add, over, parse_number, rounded, show_number, times, to_places
from tests.helpers import source_of

RANGE = ("error", "range")
ZERO = ("error", "zero")


class RoundedTest(unittest.TestCase):
    def test_constants(self):
        self.assertEqual((UNIT, MOST), (10 ** 4, 10 ** 15))

    def test_halves_go_away_from_zero(self):
        halves = [(1, 2, 1), (-1, 2, -1), (3, 2, 2), (-3, 2, -2), (5, 10, 1), (-5, 10, -1), (25, 10, 3), (-25, 10, -3)]
        for a, b, wanted in halves:
            self.assertEqual(rounded(a, b), wanted, (a, b))

    def test_others_go_to_the_nearest(self):
        others = [(0, 3, 0), (1, 3, 0), (2, 3, 1), (-1, 3, 0), (-2, 3, -1), (49, 10, 5), (44, 10, 4), (-44, 10, -4)]
        for a, b, wanted in others:
            self.assertEqual(rounded(a, b), wanted, (a, b))

    def test_against_fractions(self):
        for a in range(-60, 61):
            for b in range(1, 14):
                distance = abs(Fraction(a, b) - rounded(a, b))
                self.assertLessEqual(distance, Fraction(1, 2))
                if distance == Fraction(1, 2):
                    self.assertGreater(abs(rounded(a, b)), abs(Fraction(a, b)))

    def test_large_integers(self):
        self.assertEqual(rounded(10 ** 40 + 1, 2), 5 * 10 ** 39 + 1)


class OperationsTest(unittest.TestCase):
    def test_add_at_the_edges(self):
        self.assertEqual(add(MOST - 1, 1), ("num", MOST))
        self.assertEqual(add(MOST, 1), RANGE)
        self.assertEqual(add(1 - MOST, -1), ("num", -MOST))
        self.assertEqual(add(-MOST, -1), RANGE)
        self.assertEqual(add(12500, -20000), ("num", -7500))

    def test_times(self):
        self.assertEqual(times(20000, 15000), ("num", 30000))
        self.assertEqual(times(1, 5000), ("num", 1))
        self.assertEqual(times(-1, 5000), ("num", -1))
        self.assertEqual(times(1, 4999), ("num", 0))
        self.assertEqual(times(MOST, UNIT), ("num", MOST))
        self.assertEqual(times(MOST, -UNIT), ("num", -MOST))
        self.assertEqual(times(MOST, UNIT + 1), RANGE)
        self.assertEqual(times(-MOST, UNIT + 1), RANGE)

    def test_over(self):
        self.assertEqual(over(20000, -30000), ("num", -6667))
        self.assertEqual(over(-20000, 30000), ("num", -6667))
        self.assertEqual(over(-20000, -30000), ("num", 6667))
        self.assertEqual(over(10000, 30000), ("num", 3333))
        self.assertEqual(over(1, 20000), ("num", 1))
        self.assertEqual(over(-1, 20000), ("num", -1))
        self.assertEqual(over(1, -20000), ("num", -1))
        self.assertEqual(over(10000, 0), ZERO)
        self.assertEqual(over(0, 0), ZERO)
        self.assertEqual(over(MOST, 9999), RANGE)
        self.assertEqual(over(MOST, 10000), ("num", MOST))

    def test_to_places(self):
        wanted = {4: 123455, 3: 123460, 2: 123500, 1: 123000, 0: 120000, -1: 100000, -2: 0, -6: 0}
        for places, n in wanted.items():
            self.assertEqual(to_places(123455, places), ("num", n), places)
            self.assertEqual(to_places(-123455, places), ("num", -n), places)

    def test_to_places_halves(self):
        self.assertEqual(to_places(5000, 0), ("num", 10000))
        self.assertEqual(to_places(-5000, 0), ("num", -10000))
        self.assertEqual(to_places(4999, 0), ("num", 0))
        self.assertEqual(to_places(5 * 10 ** 9, -6), ("num", 10 ** 10))
        self.assertEqual(to_places(-5 * 10 ** 9, -6), ("num", -10 ** 10))
        self.assertEqual(to_places(5 * 10 ** 9 - 1, -6), ("num", 0))
        self.assertEqual(to_places(MOST, -6), ("num", MOST))


class TextTest(unittest.TestCase):
    def test_show(self):
        texts = {0: "0", 1: "0.0001", -1: "-0.0001", 10000: "1", -12500: "-1.25", 100: "0.01", 120000: "12",
                 1234567: "123.4567", 1000500: "100.05", MOST: "100000000000", -MOST: "-100000000000",
                 MOST - 1: "99999999999.9999"}
        for n, text in texts.items():
            self.assertEqual(show_number(n), text)
            self.assertEqual(parse_number(text), n)

    def test_zeros_at_the_end_behind_the_point(self):
        texts = {"0.50": 5000, "0.0": 0, "1.0": 10000, "1.0000": 10000, "1.2500": 12500, "-0.5000": -5000}
        for text, n in texts.items():
            self.assertEqual(parse_number(text), n, text)

    def test_no_numbers(self):
        texts = ["", "-", ".", "-.", "00", "01", "-01", "00.5", "1.", ".5", "-.5", "1.00000", "0.00001", "-0", "-0.0",
                 "-0.0000", "+1", "1e3", " 1", "1 ", "1,5", "1.2.3", "--1", "1-", "a", "1a", "1_0", "\u0661", "\u00b2",
                 "1.\u0661", "0x1", "1\n"]
        for text in texts:
            self.assertIsNone(parse_number(text), repr(text))

    def test_range(self):
        self.assertIsNone(parse_number("100000000000.0001"))
        self.assertIsNone(parse_number("-100000000000.0001"))
        self.assertIsNone(parse_number("100000000001"))
        self.assertEqual(parse_number("100000000000.0000"), MOST)
        self.assertIsNone(parse_number("9" * 400))
        self.assertIsNone(parse_number("9" * 5000))

    def test_read_back(self):
        source = source_of(3)
        for _ in range(2000):
            n = source.randrange(-10 ** source.randrange(1, 16), 10 ** source.randrange(1, 16))
            self.assertEqual(parse_number(show_number(n)), n)


if __name__ == "__main__":
    unittest.main()
