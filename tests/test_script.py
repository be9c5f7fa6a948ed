"""Points 130 to 133."""

import unittest

from labelgrid.commands import parse_operation, show_deed
from labelgrid.errors import CommandError, GridError
from labelgrid.script import run_script
from tests.helpers import small_book, source_of
from tests.slowdesk import random_deed


class ScriptTest(unittest.TestCase):
    def check(self, lines, output):
        self.assertEqual(run_script("\n".join(lines)), output)

    def steps(self, *steps):
        """Lines with what each of them puts out."""
        self.check([line for line, _ in steps], [line for _, output in steps for line in output])


class OutputTest(ScriptTest):
    def test_example(self):
        script = "book 2\n0 set A1 7\n0 set A2 =A1*2\n0 rule A1:A1 0 0 0\n1 read A1:A2\n1 why A2\n0 set B1 =RSUM(A1:A1)\n0 grant A1:A1 RSUM 1\n1 read B1:B1"
        self.assertEqual(run_script(script), ["book 2", "ok 1", "ok 1", "ok", "values 2", "#DENIED", "#DENIED", "way 2", "A2", "A1", "ok 1", "ok", "values 1", "7"])
        with self.assertRaises(CommandError):
            run_script("1 audit")

    def test_the_first_desk_and_books(self):
        self.check([""], [])
        self.check(["0 set A1 7", "0 entry A1"], ["ok 1", "entry 7"])
        self.steps(("book 12", ["book 12"]), ("11 set A1 7", ["ok 1"]), ("book 1", ["book 1"]), ("0 entry A1", ["entry "]), ("0 audit", ["audit 0"]),
                   ("book 3", ["book 3"]), ("2 set A1 x", ["ok 1"]), ("2 undo A1", ["ok 0"]), ("book 3", ["book 3"]), ("2 undo A1", ["refused nothing"]))

    def test_empty_lines(self):
        self.assertEqual(run_script("\n\nbook 2\n\n\n1 notices\n\n"), ["book 2", "notices 0"])
        self.assertEqual((run_script(""), run_script("\n")), ([], []))

    def test_sets(self):
        self.steps(("0 set A1 7", ["ok 1"]), ("0 set A2 =A1", ["ok 1"]), ("0 set A1 8", ["ok 2"]), ("0 set A1", ["ok 1"]), ("0 entry A1", ["entry "]),
                   ("0 set A1 9", ["ok 2"]), ("0 set A1 ", ["ok 1"]), ("0 entry A1", ["entry "]), ("0 set A3 =", ["refused entry"]),
                   ("0 set A3 " + "x" * 60, ["ok 1"]), ("0 set A3 " + "x" * 61, ["refused entry"]), ("0 set A3 =" + "1+" * 199 + "1", ["ok 1"]),
                   ("0 set A3 ='" + "1+" * 199 + "1", ["refused entry"]))

    def test_texts_with_spaces(self):
        self.steps(("0 set A1  7", ["ok 1"]), ("0 entry A1", ["entry  7"]), ("0 read A1:A1", ["values 1", "' 7"]), ("0 set A1 a  b ", ["ok 1"]), ("0 entry A1", ["entry a  b "]),
                   ("0 set A1   ", ["ok 1"]), ("0 entry A1", ["entry   "]), ("0 set A1 '~ !", ["ok 1"]), ("0 read A1:A1", ["values 1", "'~ !"]),
                   ("0 set A1 = 1 + 2 ", ["ok 1"]), ("0 read A1:A1", ["values 1", "3"]),
                   ("0 audit", ["audit 5", "0 set A1  7", "0 set A1 a  b ", "0 set A1   ", "0 set A1 '~ !", "0 set A1 = 1 + 2 "]))

    def test_what_is_seen(self):
        entries = ["-1.50", "TRUE", "=1=2", "x y", "'", "'7", "=1/0", "=1+\"x\"", "=A8", "=#REF", "=100000000000*99", "=JOIN(\"=\",1)"]
        shown = ["-1.5", "TRUE", "FALSE", "'x y", "'", "'7", "#ZERO", "#VALUE", "#CYCLE", "#NAME", "#RANGE", "'=1"]
        # The addresses go over A8, which is the cell of the circle.
        cells = [1, 2, 3, 4, 5, 6, 7, 9, 8, 10, 11, 12]
        lines = [f"0 set A{cell} {entry}" for cell, entry in zip(cells, entries)]
        table = dict(zip(cells, shown))
        self.check(lines + ["0 read A1:A13"], ["ok 1"] * 12 + ["values 13"] + [table.get(cell, "") for cell in range(1, 14)])

    def test_refusals(self):
        self.steps(("book 2", ["book 2"]), ("0 rule A1:B2 0 0 0", ["ok"]), ("1 set A1 7", ["refused rights"]), ("1 undo A1", ["refused rights"]), ("1 entry A1", ["refused rights"]),
                   ("1 why B2", ["refused rights"]), ("1 rule A1:A1 1 1 1", ["refused rights"]), ("1 grant A1:A1 RSUM 1", ["refused rights"]), ("1 revoke 0", ["refused nothing"]),
                   ("0 grant A1:A1 RSUM 1", ["ok"]), ("1 revoke 0", ["refused rights"]), ("0 revoke 0", ["ok"]), ("0 revoke 999", ["refused nothing"]),
                   ("1 read A1:Z4", ["refused size"]), ("1 follow A1:B99", ["refused size"]), ("1 set C1 =(", ["refused entry"]), ("0 undo C1", ["refused nothing"]))

    def test_ways_and_reasons(self):
        self.steps(("book 2", ["book 2"]), ("0 set A1 =A2", ["ok 1"]), ("0 set A2 =RSUM(B1:B2)", ["ok 2"]), ("0 rule B2:B9 0 0 0", ["ok"]), ("1 why A1", ["way 3", "A1", "A2", "B2"]),
                   ("0 why A1", ["seen"]), ("1 why Z99", ["seen"]))

    def test_notices(self):
        self.steps(("book 2", ["book 2"]), ("1 follow A1:B2", ["ok"]), ("1 follow A1:A1", ["ok"]), ("0 set A1 x", ["ok 1"]), ("0 set B2 =A1&1", ["ok 1"]), ("0 set A2 '", ["ok 1"]),
                   ("1 notices", ["notices 4", "A1 'x", "A2 '", "B2 'x1", "A1 'x"]), ("1 notices", ["notices 0"]), ("0 set A1", ["ok 1"]), ("0 rule A2:A2 0 0 0", ["ok"]),
                   ("1 notices", ["notices 4", "A1 ", "A2 #DENIED", "B2 '1", "A1 "]))

    def test_audits(self):
        self.steps(("book 3", ["book 3"]), ("2 set A1 x  y", ["ok 1"]), ("2 set A1 ", ["ok 0"]), ("2 undo A1", ["ok 1"]), ("0 rule A1:B9 0,2 - 0,1,2", ["ok"]),
                   ("1 grant A1:B2 RMAX,RSUM -", ["ok"]), ("0 grant A1:B2 RAVG 1,2", ["ok"]), ("1 revoke 1", ["ok"]), ("2 set C1 7", ["ok 1"]), ("0 read C1:C1", ["values 1", "7"]),
                   ("0 rule C1:C1 0 0,1,2 0", ["ok"]), ("1 set C1", ["ok 0"]),
                   ("0 audit", ["audit 10", "2 set A1 x  y", "2 set A1 ", "2 undo A1", "0 rule A1:B9 0,2 - 0,1,2", "1 grant A1:B2 RMAX,RSUM -", "0 grant A1:B2 RAVG 1,2", "1 revoke 1",
                                "2 set C1 7", "0 rule C1:C1 0 0,1,2 0", "1 set C1 "]),
                   ("2 audit", ["audit 9", "2 set A1 x  y", "2 set A1 ", "2 undo A1", "0 rule A1:B9 0,2 - 0,1,2", "1 grant A1:B2 RMAX,RSUM -", "0 grant A1:B2 RAVG 1,2", "1 revoke 1",
                                "2 set C1 7", "0 rule C1:C1 0 0,1,2 0"]))

    def test_releases(self):
        self.steps(("releases", ["releases"]), ("book 12", ["book 12"]), ("0 set A2 =RSUM(B1:B2)+SUM(RMAX(B1:B2))", ["ok 1"]), ("0 set A1 =RMAX(B1:B2)", ["ok 1"]), ("releases", ["releases"]),
                   ("0 grant B1:B2 RMAX,RSUM 1,11", ["ok"]), ("3 grant B1:B2 RMAX -", ["ok"]),
                   ("releases", ["releases", "A1 0 0 1,11", "A1 0 1 -", "A2 0 0 1,11", "A2 2 0 1,11", "A2 2 1 -"]), ("5 revoke 0", ["ok"]),
                   ("releases", ["releases", "A1 0 1 -", "A2 2 1 -"]))


class WrongTest(ScriptTest):
    def wrong(self, line, before=("book 3",)):
        with self.assertRaises(CommandError) as caught:
            run_script("\n".join(list(before) + [line, "0 audit", "nonsense"]))
        self.assertEqual(caught.exception.line, len(before) + 1, line)
        self.assertIsInstance(caught.exception, GridError)

    def all_wrong(self, *lines):
        for line in lines:
            self.wrong(line)

    def test_numbers_of_lines(self):
        self.wrong("x", [])
        self.wrong("x", ["", ""])
        self.wrong("x", ["book 2", "", "1 set A1 =", "", "releases"])
        # A line may be wrong only because of the book before it.
        self.wrong("2 audit", ["book 3", "2 audit", "book 2"])
        self.wrong("1 audit", [])

    def test_unknown_words(self):
        self.all_wrong("x", " ", "0", "0 ", "0 x", "0 sets A1 7", "0 Set A1 7", "SET A1", "set A1 7", "audit", "0 budget A1:A1 RSUM 1 1", "0 ask RSUM A1:A1", "release", "Releases",
                       "0 releases", "0 book 2", "#", "-", "0 releases A1", "0\tset A1 7")

    def test_books(self):
        self.all_wrong("book", "book ", "book 0", "book 13", "book 02", "book -1", "book 1.0", "book 2 ", " book 2", "book  2", "book 2 2", "book A", "book 1000", "Book 2", "books 2", "book 012")

    def test_users(self):
        self.all_wrong("3 audit", "00 audit", "01 audit", "-1 audit", "- audit", "12 audit", "0,1 audit", "1000 audit", "a audit", "0000 audit", "3 set A1 7", "0001 set A1 7", "+0 audit")

    def test_addresses_and_ranges(self):
        for address in ["A0", "A100", "A01", "AA1", "a1", "1A", "A", "1", "A1:A1", "A1:", "A-1", "$A1", "", "A1.", "A 1"]:
            self.all_wrong(f"0 set {address} 7", f"0 undo {address}", f"0 entry {address}", f"0 why {address}")
        for area in ["A1", "B1:A1", "A2:A1", "A1:A100", "A1:AA2", "A1:A0", "A1-A2", "A1:A2:A3", "a1:a2", ":", "A1:", ":A1", "", "A1 :A2", "A1:A2,B1:B2", "SHEET"]:
            self.all_wrong(f"0 read {area}", f"0 follow {area}", f"0 rule {area} 0 0 0", f"0 grant {area} RSUM 0")

    def test_sets_of_users(self):
        for users in ["1,0", "0,0", "0,1,1", "3", "0,3", "0,12", "", ",", "0,", ",0", "0,,1", "--", "-,0", "0-1", "00", "0, 1", "01", "0,001", "a", "0;1", "1000", "0.1"]:
            self.all_wrong(f"0 rule A1:A1 {users} 0 0", f"0 rule A1:A1 0 {users} 0", f"0 rule A1:A1 0 0 {users}", f"0 grant A1:A1 RSUM {users}")

    def test_functions(self):
        for functions in ["SUM", "RSUM,SUM", "RSUM,RSUM", "RSUM,RMAX,RSUM", "rsum", "-", "", ",", "RSUM,", ",RSUM", "RSUM;RMAX", "RSUM, RMAX", "RJOIN", "R", "RSUM:RMAX"]:
            self.wrong(f"0 grant A1:A1 {functions} 0")

    def test_indexes(self):
        for index in ["", "00", "01", "1000", "-1", "x", "1.0", "0,1", "0001", "+1", "-"]:
            self.wrong(f"0 revoke {index}")

    def test_words_missing_or_too_many(self):
        self.all_wrong("0 set", "0 set ", "0 undo", "0 undo A1 A2", "0 undo A1 7", "0 read", "0 read A1:A2 A3:A4", "0 entry", "0 entry A1 A2", "0 why", "0 why A1 A2", "0 rule", "0 rule A1:A1",
                       "0 rule A1:A1 0 0", "0 rule A1:A1 0 0 0 0", "0 grant", "0 grant A1:A1", "0 grant A1:A1 RSUM", "0 grant A1:A1 RSUM 0 0", "0 grant RSUM 0", "0 revoke", "0 revoke 0 0",
                       "0 follow", "0 follow A1:A1 A1:A1", "0 notices A1:A1", "0 notices 0", "0 audit 0", "0 1 audit", "releases 0")

    def test_spaces_too_many(self):
        self.all_wrong(" 0 audit", "0  audit", "0 audit ", " 0 set A1 7", "0  set A1 7", "0 set  A1 7", "0 undo A1 ", "0 undo  A1", "0 read A1:A2 ", "0 notices ", " releases", "releases ",
                       "0 rule A1:A1  0 0", "0 rule A1:A1 0 0 0 ", "0 grant A1:A1  RSUM 0", "0 revoke 0 ", "  ")

    def test_nothing_is_put_out(self):
        for lines in [["0 set A1 7", "0 set A1"], ["book 2", "1 audit"]]:
            run_script("\n".join(lines))
            with self.assertRaises(CommandError):
                run_script("\n".join(lines + ["wrong"]))


class DeedTest(ScriptTest):
    def test_deeds_are_read_as_they_are_written(self):
        source = source_of(132)
        book = small_book(source)
        for _ in range(300):
            deed = random_deed(source, book)
            self.assertEqual(parse_operation(f"2 {show_deed(deed)}", 3), (2, deed))

    def test_great_scripts(self):
        lines = ["book 12"] + [f"{number % 12} set {'ABCDEFGHIJKLMNOPQRSTUVWXYZ'[number % 26]}{number % 99 + 1} {number}" for number in range(1000)]
        self.check(lines + ["0 read A1:A1"], ["book 12"] + ["ok 1"] * 1000 + ["values 1", "0"])


if __name__ == "__main__":
    unittest.main()
