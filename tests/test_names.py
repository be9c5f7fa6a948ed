"""Points 21 and 22, with points 17 and 18."""

import unittest

from labelgrid.addresses import SHEET, parse_address, parse_range
from labelgrid.entries import parse_entry
from labelgrid.errors import EntryError
from labelgrid.names import moved_names, named, resolved, table_names
from labelgrid.shifting import Shift
from labelgrid.trees import show_formula
from labelgrid.uses import used_ranges
from tests.helpers import check_pure, random_tree, random_range, source_of


def ranges_of(table):
    return {name: parse_range(table[name]) for name in table}


NAMES = ranges_of({"all": "A1:B9", "rate": "C1:C1", "sales.price": "D2:D9", "x": "E1:E2", "aaaaaaaaaaaa.bbbbbbbbbbbb": "F1:F9",
                   "same": "G1:G2", "also": "G1:G2", "also.b": "G1:G2", "one": "H1:H1", "another": "H1:H1"})


class ResolveTest(unittest.TestCase):
    def check(self, table, names=NAMES):
        for text, wanted in table.items():
            self.assertEqual(check_pure(self, resolved, text, names), wanted)

    def told(self, table):
        for text, at in table.items():
            with self.assertRaises(EntryError) as caught:
                resolved(text, NAMES)
            self.assertEqual(caught.exception.at, at, text)

    def test_example(self):
        names = {"all": ((0, 0), (1, 8)), "rate": ((2, 0), (2, 0))}
        self.assertEqual(resolved('=SUM(all) * rate & "rate"', names), '=SUM(A1:B9) * C1 & "rate"')

    def test_names_of_one_word_and_of_two(self):
        self.check({"=SUM(all)": "=SUM(A1:B9)", "=rate": "=C1", "=SUM(sales.price,x)": "=SUM(D2:D9,E1:E2)",
                    "=SUM(aaaaaaaaaaaa.bbbbbbbbbbbb)": "=SUM(F1:F9)", "=-rate+rate": "=-C1+C1", "=RSUM( all )": "=RSUM( A1:B9 )",
                    "=rate*1.5": "=C1*1.5", "=1.5*rate": "=1.5*C1", "=one+another": "=H1+H1"})

    def test_texts_in_quotes(self):
        self.check({'="rate"': '="rate"', '="no name"&rate': '="no name"&C1', '="say ""rate"" x"&rate&"y"': '="say ""rate"" x"&C1&"y"',
                    '=""&rate': '=""&C1', '="""no"&rate': '="""no"&C1', '=rate&"a.b"': '=C1&"a.b"', '="A""B"': '="A""B"'})

    def test_a_text_without_end(self):
        self.check({'="no name': '="no name', '=rate&"rate': '=C1&"rate'})

    def test_entries_that_are_no_formulas(self):
        self.check({"": "", "rate": "rate", "'=rate": "'=rate", " =rate": " =rate", "no name": "no name", "5": "5"})

    def test_formulas_without_names(self):
        self.check({"=": "=", "=A1+SUM(A1:B2)": "=A1+SUM(A1:B2)", "=1..2": "=1..2", "=.": "=.", "=IF(TRUE,1,#REF)": "=IF(TRUE,1,#REF)"})
        self.check({"=A1+SUM(A1:B2)": "=A1+SUM(A1:B2)"}, {})

    def test_a_run_that_is_no_name(self):
        self.told({"=no": 1, "=rate+no+none": 6, '="no"&no': 6, "=rates": 1, "=all.": 1, "=sales": 1, "=price": 1, "=sales.": 1,
                   "=sales.price.x": 1, "=SUM(all,allx)": 9, "=rate rat": 6, "=all..x": 1, "=A1+a": 4, "=1.x.": 3, '=""no': 3})

    def test_the_first_one_is_told(self):
        self.told({"=rate+b+a": 6, '="x" & bb & cc': 7})

    def test_runs_end_where_other_characters_begin(self):
        self.check({"=rate5": "=C15", "=Arate": "=AC1", "=(x)": "=(E1:E2)", "=all:x": "=A1:B9:E1:E2", "=.rate": "=.C1"})

    def test_without_any_names(self):
        with self.assertRaises(EntryError) as caught:
            resolved("= a", {})
        self.assertEqual(caught.exception.at, 2)


class NamedTest(unittest.TestCase):
    def check(self, table):
        for text, wanted in table.items():
            self.assertEqual(check_pure(self, named, text, NAMES), wanted)
            self.assertEqual(resolved(wanted, NAMES), text)

    def test_example(self):
        names = {"all": ((0, 0), (1, 8)), "rate": ((2, 0), (2, 0))}
        self.assertEqual(named("=SUM(A1:B9,C1:C1)*C1", names), "=SUM(all,C1:C1)*rate")

    def test_ranges_and_addresses(self):
        self.check({"=SUM(A1:B9)": "=SUM(all)", "=C1": "=rate", "=SUM(D2:D9,E1:E2)": "=SUM(sales.price,x)", "=C1+C1": "=rate+rate",
                    "=RSUM(A1:B9)+RSUM(C1)": "=RSUM(all)+RSUM(rate)", "=SUM(A1:B8)": "=SUM(A1:B8)", "=A1": "=A1", "=C11": "=C11",
                    "=SUM(F1:F9)": "=SUM(aaaaaaaaaaaa.bbbbbbbbbbbb)"})

    def test_everything_else_stays(self):
        self.check({"= C1  *( 2.50 )": "= rate  *( 2.50 )", '="C1"&C1&"A1:B9"': '="C1"&rate&"A1:B9"', "=1": "=1",
                    "=#REF+-C1": "=#REF+-rate", '="say ""C1"""': '="say ""C1"""', "=SUM( A1:B9 , 1)": "=SUM( all , 1)"})

    def test_entries_that_are_no_formulas(self):
        self.check({"": "", "'C1": "'C1", "text A1:B9": "text A1:B9", "5": "5"})

    def test_several_names_of_one_range(self):
        self.check({"=SUM(G1:G2)": "=SUM(also)", "=H1": "=another"})
        self.assertEqual(named("=SUM(A1:B1)", ranges_of({"b": "A1:B1", "a.c": "A1:B1", "ab": "A1:B1"})), "=SUM(a.c)")
        self.assertEqual(named("=A1", ranges_of({"b": "A1:A1", "aa": "A1:A1", "a": "A1:A2"})), "=aa")

    def test_ranges_of_one_address_stay(self):
        self.check({"=SUM(C1:C1)": "=SUM(C1:C1)", "=SUM(C1:C1,C1)": "=SUM(C1:C1,rate)"})

    def test_addresses_that_are_a_part_of_a_range(self):
        self.check({"=SUM(C1:C2)": "=SUM(C1:C2)", "=SUM(A1:C1)": "=SUM(A1:C1)", "=SUM(C1:C2,C1)": "=SUM(C1:C2,rate)",
                    "=SUM(C1:H1)": "=SUM(C1:H1)"})

    def test_ranges_with_spaces_inside(self):
        self.check({"=SUM(A1 :B9)": "=SUM(A1 :B9)", "=SUM(A1: B9)": "=SUM(A1: B9)", "=SUM(A1 : B9,A1:B9)": "=SUM(A1 : B9,all)",
                    "=SUM(C1 :H1)+C1": "=SUM(C1 :H1)+rate", "=SUM( A1:B9)": "=SUM( all)", "=SUM(C1 : C1)": "=SUM(C1 : C1)"})

    def test_resolving_gives_the_entry_again(self):
        source = source_of(21)
        for _ in range(400):
            tree = random_tree(source, 3)
            text = "=" + show_formula(tree)
            areas = [area for area in used_ranges(tree) if source.random() < 0.7] + [random_range(source), SHEET]
            words = ["z", "a", "b", "ab", "a.b", "c", "d", "e", "f", "g", "h", "i", "j", "k", "l", "m", "n", "o"]
            names = dict(zip(words, areas))
            self.assertEqual(resolved(check_pure(self, named, text, names), names), text)

    def test_each_used_range_and_address_gets_its_name(self):
        source = source_of(22)
        names = {"p": ((0, 0), (0, 0)), "q": ((0, 0), (1, 1)), "r": ((1, 1), (1, 1))}
        for _ in range(200):
            parts = [source.choice(["A1", "SUM(A1:B2)", "B2", "MAX(A1:B2,B2)", '"A1"', "A2"]) for _ in range(4)]
            text = "=" + source.choice(["+", " & "]).join(parts)
            wanted = text.replace("A1:B2", "q").replace('"A1"', "?").replace("A1", "p").replace("B2", "r").replace("?", '"A1"')
            self.assertEqual(named(text, names), wanted)
            self.assertEqual(parse_entry(resolved(wanted, names)), parse_entry(text))


class TableTest(unittest.TestCase):
    def headings(self, words):
        return {(2 + index, 4): ("text", word) for index, word in enumerate(words)}

    def check(self, words, text, wanted):
        made = check_pure(self, table_names, "t", parse_range(text), self.headings(words))
        self.assertEqual(made, ranges_of(wanted))

    def test_columns(self):
        self.check(["price", "count", "x"], "C5:E9", {"t.price": "C6:C9", "t.count": "D6:D9", "t.x": "E6:E9"})
        self.check(["price", "count", "x"], "C5:D6", {"t.price": "C6:C6", "t.count": "D6:D6"})

    def test_one_row(self):
        self.check(["price", "count"], "C5:D5", {})

    def test_headings_that_are_no_words(self):
        self.check(["", "Price", "a b", "a.b", "a1", "a" * 12, "a" * 13, "\u00e4", "_"], "C5:K7", {"t." + "a" * 12: "H6:H7"})
        values = {(0, 0): ("num", 10000), (1, 0): ("bool", True), (2, 0): ("error", "value"), (4, 0): ("text", "ok")}
        self.assertEqual(table_names("t", parse_range("A1:E2"), values), {"t.ok": parse_range("E2:E2")})

    def test_equal_headings(self):
        self.check(["b", "a", "b", "c", "a"], "C5:G7", {"t.b": "C6:C7", "t.a": "D6:D7", "t.c": "F6:F7"})

    def test_only_the_columns_and_the_first_row_of_the_table(self):
        values = {**self.headings(["a", "b", "c"]), (3, 5): ("text", "below")}
        self.assertEqual(table_names("sales", parse_range("D5:D99"), values), {"sales.b": parse_range("D6:D99")})
        self.assertEqual(table_names("t", parse_range("D6:D99"), values), {"t.below": parse_range("D7:D99")})
        self.assertEqual(table_names("t", parse_range("A1:Z3"), values), {})

    def test_they_can_be_used(self):
        names = table_names("t", parse_range("C5:D9"), self.headings(["price", "count"]))
        self.assertEqual(resolved("=SUM(t.price)*t.count", names), "=SUM(C6:C9)*D6:D9")


class MovedTest(unittest.TestCase):
    def check(self, shift, table):
        names = {f"n{chr(97 + index)}": text for index, text in enumerate(table)}
        wanted = {name: table[names[name]] for name in names if table[names[name]] is not None}
        made = check_pure(self, lambda given: moved_names(given, shift), ranges_of(names))
        self.assertEqual(made, ranges_of(wanted))

    def test_insertions(self):
        self.check(Shift(True, "row", 2, 3), {"A1:B2": "A1:B2", "A1:A3": "A1:A6", "C5:C5": "C8:C8", "A90:A98": "A93:A99",
                                             "A97:A99": None, "A1:Z99": "A1:Z99"})
        self.check(Shift(True, "column", 0, 1), {"A1:A1": "B1:B1", "Z1:Z9": None, "A1:Z2": "B1:Z2"})

    def test_deletions(self):
        self.check(Shift(False, "row", 2, 3), {"A1:B2": "A1:B2", "A1:A3": "A1:A2", "C3:D5": None, "C4:C4": None, "C5:C6": "C3:C3",
                                              "C6:C6": "C3:C3"})

    def test_no_names(self):
        self.assertEqual(moved_names({}, Shift(True, "row", 0, 1)), {})

    def test_a_named_formula_goes_with_its_names(self):
        shift = Shift(True, "column", 1, 2)
        names = ranges_of({"a": "A1:C3", "b": "B1:B1"})
        tree = shift.tree(parse_entry(resolved("=SUM(a) + b", names))[1])
        self.assertEqual(named("=" + show_formula(tree), moved_names(names, shift)), "=SUM(a) + b")
        self.assertEqual(moved_names(names, shift), {"a": (parse_address("A1"), parse_address("E3")), "b": parse_range("D1:D1")})


if __name__ == "__main__":
    unittest.main()
