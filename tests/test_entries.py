"""Points 11 and 12."""

import unittest

from labelgrid.entries import canonical, parse_entry, show_entry
from labelgrid.errors import EntryError
from labelgrid.numbers import MOST
from labelgrid.trees import show_formula
from tests.helpers import check_pure, random_tree, source_of


class ParseTest(unittest.TestCase):
    def told(self, text):
        with self.assertRaises(EntryError) as caught:
            parse_entry(text)
        with self.assertRaises(EntryError):
            canonical(text)
        return caught.exception.at

    def test_blank(self):
        self.assertIsNone(parse_entry(""))

    def test_values(self):
        values = {"TRUE": ("bool", True), "FALSE": ("bool", False), "1.50": ("num", 15000), "-2": ("num", -20000),
                  "0": ("num", 0), "100000000000": ("num", MOST)}
        for text, value in values.items():
            self.assertEqual(parse_entry(text), ("value", value))

    def test_texts(self):
        for text in ["a", "True", "true", " TRUE", "TRUE ", "-0", "01", "1.", ".5", "1.23456", " 1", " =1", "+1", "A1", '"',
                     "100000000001", "\u0661", "#REF", "\n"]:
            self.assertEqual(parse_entry(text), ("value", ("text", text)))

    def test_apostrophes(self):
        texts = {"'": "", "'1": "1", "'TRUE": "TRUE", "'=1": "=1", "''": "'", "''a": "'a", "'a": "a", "a'": "a'"}
        for text, plain in texts.items():
            self.assertEqual(parse_entry(text), ("value", ("text", plain)))

    def test_formulas(self):
        self.assertEqual(parse_entry("=A1&TRUE"), ("formula", ("&", ("ref", (0, 0)), ("bool", True))))
        self.assertEqual(parse_entry("= 1"), ("formula", ("num", 10000)))
        self.assertEqual((self.told("="), self.told("=1+"), self.told("=1 2"), self.told("=1+$")), (1, 3, 3, 3))

    def test_lengths(self):
        formula = "=" + "+".join(["1"] * 200)
        self.assertEqual(len(formula), 400)
        self.assertEqual(parse_entry(formula)[0], "formula")
        self.assertEqual(self.told(formula + " "), 400)
        self.assertEqual(self.told("x" * 401), 400)
        self.assertEqual(self.told("x" * 400), 60)
        self.assertEqual(self.told("=%" + "1" * 400), 400)
        self.assertEqual(parse_entry("= " + " " * 397 + "1")[0], "formula")

    def test_long_texts(self):
        self.assertEqual(parse_entry("x" * 60), ("value", ("text", "x" * 60)))
        self.assertEqual(self.told("x" * 61), 60)
        self.assertEqual(parse_entry("'" + "x" * 60), ("value", ("text", "x" * 60)))
        self.assertEqual(self.told("'" + "x" * 61), 61)
        self.assertEqual(parse_entry("''" + "x" * 59), ("value", ("text", "'" + "x" * 59)))
        self.assertEqual(self.told("1" * 61), 60)


class ShowTest(unittest.TestCase):
    def test_shown(self):
        shown = {"": "", "1.50": "1.5", "-2.0": "-2", "TRUE": "TRUE", "a": "a", "'a": "a", "'1": "'1", "'TRUE": "'TRUE",
                 "'FALSE": "'FALSE", "'": "'", "''": "''", "''a": "''a", "'=1": "'=1", "'1.50": "'1.50", "'01": "01",
                 "'-0": "-0", "01": "01", "=(A1)*( 2 )": "=A1 * 2", "'100000000001": "100000000001", "'-1": "'-1", " =": " ="}
        for text, wanted in shown.items():
            self.assertEqual(canonical(text), wanted)
            self.assertEqual(show_entry(parse_entry(text)), wanted)
            self.assertEqual(parse_entry(wanted), parse_entry(text))

    def test_long_texts(self):
        for text in ["x" * 60, "'=" + "x" * 59, "''" + "x" * 59]:
            self.assertEqual(parse_entry(canonical(text)), parse_entry(text))

    def test_values_are_read_back(self):
        source = source_of(12)
        for _ in range(2000):
            text = "".join([source.choice("'=1.0-TRUEa ") for _ in range(source.randrange(1, 5))])
            for value in [("text", text), ("num", source.randrange(-MOST, MOST + 1)), ("bool", source.random() < 0.5)]:
                shown = show_entry(("value", value))
                self.assertEqual(parse_entry(shown), ("value", value))

    def test_formulas_are_read_back(self):
        source = source_of(13)
        for _ in range(500):
            parsed = ("formula", random_tree(source, 3))
            if len(show_formula(parsed[1])) <= 399:
                self.assertEqual(parse_entry(show_entry(parsed)), parsed)
            check_pure(self, show_entry, parsed)


if __name__ == "__main__":
    unittest.main()
