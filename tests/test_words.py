"""The tokens of points 7 and 8."""

import unittest

from labelgrid.errors import EntryError
from labelgrid.words import tokens_of


class TokensTest(unittest.TestCase):
    def told(self, text, at=0):
        with self.assertRaises(EntryError) as caught:
            tokens_of(text, at)
        return caught.exception.at

    def test_each_kind(self):
        tokens = tokens_of('1.50 "a" B7 #REF SUM +', 0)
        self.assertEqual(tokens, [("num", 15000, 0), ("text", "a", 5), ("ref", (1, 6), 9), ("lost", "#REF", 12),
                                  ("word", "SUM", 17), ("sign", "+", 21)])

    def test_signs(self):
        signs = ["+", "-", "*", "/", "&", "=", "!=", "<", "<=", "(", ")", ",", ":"]
        tokens = tokens_of(" ".join(signs), 0)
        self.assertEqual([token[:2] for token in tokens], [("sign", sign) for sign in signs])

    def test_as_many_characters_as_possible(self):
        self.assertEqual([token[1] for token in tokens_of("<=<!==<<=", 0)], ["<=", "<", "!=", "=", "<", "<="])
        self.assertEqual(tokens_of("A1+12", 0), [("ref", (0, 0), 0), ("sign", "+", 2), ("num", 120000, 3)])
        self.assertEqual(tokens_of("1A1", 0), [("num", 10000, 0), ("ref", (0, 0), 1)])
        self.assertEqual(tokens_of("A1:B2", 0), [("ref", (0, 0), 0), ("sign", ":", 2), ("ref", (1, 1), 3)])
        self.assertEqual(tokens_of("1Q", 0), [("num", 10000, 0), ("word", "Q", 1)])
        self.assertEqual(tokens_of("#REFA1", 0), [("lost", "#REF", 0), ("ref", (0, 0), 4)])

    def test_from_an_index_on(self):
        self.assertEqual(tokens_of("=%1", 2), [("num", 10000, 2)])
        self.assertEqual(tokens_of("=1", 1), [("num", 10000, 1)])
        self.assertEqual((tokens_of("=", 1), tokens_of("", 0), tokens_of("   ", 0)), ([], [], []))

    def test_texts(self):
        self.assertEqual(tokens_of('""', 0), [("text", "", 0)])
        self.assertEqual(tokens_of('""""', 0), [("text", '"', 0)])
        self.assertEqual(tokens_of('"a""b" "c"', 0), [("text", 'a"b', 0), ("text", "c", 7)])
        self.assertEqual(tokens_of('"\u00e4\n=+"', 0), [("text", "\u00e4\n=+", 0)])

    def test_long_texts(self):
        self.assertEqual(tokens_of('"' + "x" * 60 + '"', 0), [("text", "x" * 60, 0)])
        self.assertEqual(self.told('1 "' + "x" * 61 + '"'), 2)
        self.assertEqual(tokens_of('"' + '""' * 60 + '"', 0), [("text", '"' * 60, 0)])
        self.assertEqual(self.told('"' + '""' * 61 + '"'), 0)

    def test_texts_without_end(self):
        self.assertEqual(self.told('1+"ab'), 2)
        self.assertEqual(self.told('"'), 0)
        self.assertEqual(self.told('"ab""'), 0)
        self.assertEqual(self.told('"""'), 0)

    def test_characters_that_are_not_allowed(self):
        for text in ["%", ">", "!", "a", "_", "'", "\t", "\n", "#", "#RE", "#ref", "\u00c4", ";", "[", "\u0661", "\u00b2"]:
            self.assertEqual(self.told("1+" + text), 2, repr(text))
        self.assertEqual(self.told("1!2"), 1)
        self.assertEqual(self.told("=1+$", 1), 3)

    def test_digits_and_points(self):
        for text in ["01", "1.", ".5", ".", "1.2.3", "1.23456", "00", "1..2", "100000000001"]:
            self.assertEqual(self.told(" " + text), 1, text)

    def test_capital_letters_and_digits(self):
        for text in ["A0", "A100", "A01", "AB1", "A1B", "A1B2", "SUM1", "S2UM"]:
            self.assertEqual(self.told("  " + text), 2, text)
        self.assertEqual(tokens_of("X", 0), [("word", "X", 0)])

    def test_first_wrong_token_is_told(self):
        self.assertEqual(self.told("1 01 %"), 2)
        self.assertEqual(self.told('% "x'), 0)


if __name__ == "__main__":
    unittest.main()
