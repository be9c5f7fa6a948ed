"""Points 49 to 51, and what point 70 says of labels."""

import unittest

from labelgrid.addresses import SHEET, cells_of, show_address
from labelgrid.edits import apply_edit
from labelgrid.flow import Flow, graph_for, hidden_cells, hidden_uses, label_of, labels, sees
from labelgrid.shifting import Shift, inserted
from tests import spelled
from tests.helpers import area_of, at, called_areas, check_pure, small_book, small_grant, small_rule, small_text, source_of

A1 = (0, 0)


def book_of(entries, rules=(), grants=(), users=3):
    """A book whose first rule gives everybody all rights; a rule is a range and its readers, with owner 0."""
    everybody = list(range(users))
    entries = {at(name): entries[name] for name in entries}
    rules = [(SHEET, everybody, everybody, everybody)] + [(area_of(text), read, [0], [0]) for text, read in rules]
    return ("book", users, entries, {cell: 0 for cell in entries}, rules, list(grants))


def grant(text, functions=("RSUM",), to=(1,), by=0, revoked=False):
    return (area_of(text), list(functions), list(to), by, revoked)


SECRET = [("B1:B9", [0])]


class LabelTest(unittest.TestCase):
    def check(self, book, table):
        for name, label in table.items():
            self.assertEqual(check_pure(self, label_of, book, at(name)), label, name)
            self.assertEqual([user for user in range(book[1]) if check_pure(self, sees, book, user, at(name))], label, name)
            self.assertEqual(Flow(book).label(at(name)), label)
            for user in range(book[1]):
                self.assertEqual(at(name) in check_pure(self, hidden_cells, book, user),
                                 user not in label and book[2].get(at(name), "").startswith("="))
        self.assertEqual(check_pure(self, labels, book), {cell: spelled.label(book, cell) for cell in book[2]})

    def test_addresses_without_an_entry(self):
        self.check(book_of({}, SECRET), {"A1": [0, 1, 2], "B1": [0], "B9": [0], "B10": [0, 1, 2], "Z99": [0, 1, 2]})

    def test_constants_and_formulas(self):
        self.check(book_of({"B1": "5", "A1": "=B1", "A2": "=A1+1", "A3": "=2", "A4": "=B9", "C1": "=SUM(A1:B2)", "A5": "7"}, SECRET),
                   {"B1": [0], "A1": [0], "A2": [0], "A3": [0, 1, 2], "A4": [0], "C1": [0], "A5": [0, 1, 2]})

    def test_whoever_may_not_read_a_formula(self):
        self.check(book_of({"B1": "=1", "B2": "=A1", "A1": "=3", "A2": "=B1"}, SECRET), {"B1": [0], "B2": [0], "A1": [0, 1, 2], "A2": [0]})

    def test_branches_that_are_not_looked_at(self):
        self.check(book_of({"A1": "=IF(TRUE,1,B1)", "A2": '=IF(1/0,B1,2)', "A3": "=COUNT(1,B1)"}, SECRET),
                   {"A1": [0], "A2": [0], "A3": [0]})

    def test_different_readers_of_what_is_used(self):
        self.check(book_of({"A1": "=B1+C1", "A2": "=A1", "A3": "=C1"}, [("B1:B1", [0, 1]), ("C1:C1", [1, 2])]),
                   {"A1": [1], "A2": [1], "A3": [1, 2], "B1": [0, 1]})

    def test_released_calls(self):
        entries = {"A1": "=RSUM(B1:B9)", "A2": "=A1*2", "A3": "=RMAX(B1:B9)", "A4": "=RSUM(B1:B8)", "A5": "=SUM(B1:B9)"}
        self.check(book_of(entries, SECRET, [grant("B1:B9")]), {"A1": [0, 1], "A2": [0, 1], "A3": [0], "A4": [0], "A5": [0]})
        self.check(book_of(entries, SECRET, [grant("B1:B9", ["RMAX", "RSUM"], [1, 2])]),
                   {"A1": [0, 1, 2], "A2": [0, 1, 2], "A3": [0, 1, 2], "A4": [0], "A5": [0]})

    def test_a_reference_as_an_argument(self):
        self.check(book_of({"A1": "=RSUM(B1)", "A2": "=RSUM(B1:B1)", "A3": "=B1"}, SECRET, [grant("B1:B1")]),
                   {"A1": [0, 1], "A2": [0, 1], "A3": [0]})

    def test_grants_that_are_not_live(self):
        entries = {"A1": "=RSUM(B1:B9)"}
        self.check(book_of(entries, SECRET, [grant("B1:B9", revoked=True)]), {"A1": [0]})
        self.check(book_of(entries, SECRET, [grant("B1:B9", by=1)]), {"A1": [0]})
        self.check(book_of(entries, SECRET + [("B3:B3", [])], [grant("B1:B9", by=0)]), {"A1": [1]})

    def test_uses_by_itself_and_in_released_calls_of_the_same_address(self):
        grants = [grant("B1:B9"), grant("B1:B1")]
        self.check(book_of({"A1": "=RSUM(B1:B9)+B1", "A2": "=RSUM(B1:B9)+RSUM(B1)", "A3": "=RSUM(B1:B9)+A1", "A4": "=RSUM(B1)+RMAX(B1)"},
                           SECRET, grants), {"A1": [0], "A2": [0, 1], "A3": [0], "A4": [0]})

    def test_a_use_that_is_released_to_one_user_and_not_to_another(self):
        grants = [grant("B1:B9", to=[2]), grant("C1:C1", to=[1])]
        self.check(book_of({"A1": "=RSUM(B1:B9)", "A2": "=RSUM(C1)", "A3": "=A1+A2"}, SECRET + [("C1:C1", [0])], grants),
                   {"A1": [0, 2], "A2": [0, 1], "A3": [0]})

    def test_released_calls_over_hidden_formulas(self):
        # The call is released, whatever its range rests on.
        self.check(book_of({"A1": "=RSUM(A2:A2)", "A2": "=B1", "A3": "=RSUM(A2:A2)+A2"}, SECRET, [grant("A2:A2")]),
                   {"A1": [0, 1], "A2": [0], "A3": [0]})

    def test_chains_and_circles_of_hidden_cells(self):
        self.check(book_of({"A1": "=A2", "A2": "=A3", "A3": "=A1+B1", "A4": "=A3", "A5": "=A6", "A6": "=A5", "A7": "=A7+A4"}, SECRET),
                   {"A1": [0], "A2": [0], "A3": [0], "A4": [0], "A5": [0, 1, 2], "A6": [0, 1, 2], "A7": [0]})

    def test_chains_through_what_may_not_be_read(self):
        self.check(book_of({"B1": "=A2", "A1": "=B1", "A2": "1", "A3": "=RSUM(B1)"}, SECRET, [grant("B1:B1")]),
                   {"A1": [0], "A2": [0, 1, 2], "A3": [0, 1]})

    def test_formulas_over_the_whole_sheet(self):
        entries = {show_address(cell): "=SUM(A1:Z99)" for cell in cells_of(area_of("C1:Z50"))}
        book = book_of(entries)
        self.assertEqual((label_of(book, at("C1")), set(map(tuple, labels(book).values()))), ([0, 1, 2], {(0, 1, 2)}))
        book = book_of(entries, [("A99:A99", [1])])
        self.assertEqual((label_of(book, at("C1")), set(map(tuple, labels(book).values()))), ([1], {(1,)}))

    def test_long_chains(self):
        cells = cells_of(SHEET)
        entries = {show_address(cell): f"={show_address(cells[index + 1])}" for index, cell in enumerate(cells[:-1])}
        book = book_of(entries, [("Z99:Z99", [1])])
        self.assertEqual((label_of(book, A1), labels(book)[(5, 5)], len(hidden_cells(book, 0))), ([1], [1], 2573))

    def test_against_the_words_of_the_document(self):
        source = source_of(49)
        hidden = 0
        for _ in range(120):
            book = small_book(source, 4, 4)
            found = check_pure(self, labels, book)
            for user in range(3):
                edges = spelled.hidden_edges(book, user)
                cells = check_pure(self, hidden_cells, book, user)
                wanted = {cell for cell in edges if not spelled.sees(book, user, cell, edges)}
                self.assertEqual(cells, {cell: True for cell in wanted})
                hidden += len(cells)
                for cell in cells_of(((0, 0), (4, 4))):
                    self.assertEqual(sees(book, user, cell), spelled.sees(book, user, cell, edges))
            self.assertEqual(found, {cell: label_of(book, cell) for cell in book[2]})
        self.assertGreater(hidden, 300)

    def test_labels_are_the_greatest_ones(self):
        source = source_of(50)
        for _ in range(60):
            book = small_book(source, 4, 4)
            for user in range(3):
                edges = spelled.hidden_edges(book, user)
                # Take away whoever sees what point 50 does not allow, until nothing is to be taken away.
                seen = {cell for cell in cells_of(((0, 0), (4, 4))) if spelled.may(book, user, "read", cell)}
                while True:
                    less = {cell for cell in seen if edges.get(cell, set()) <= seen}
                    if less == seen:
                        break
                    seen = less
                self.assertEqual({cell for cell in cells_of(((0, 0), (4, 4))) if sees(book, user, cell)}, seen)


class UsesTest(unittest.TestCase):
    def test_hidden_uses(self):
        book = book_of({"A1": "=B1+RSUM(C1:C9)+SUM(D1,RSUM(C1),RSUM(C1:C9))", "A2": "5", "A3": "=1", "A4": "=RSUM(#REF)"},
                       [], [grant("C1:C9", to=[1, 2]), grant("C1:C1", to=[2])])
        table = {0: "B1:B1 C1:C9 D1:D1 C1:C1 C1:C9", 1: "B1:B1 D1:D1 C1:C1", 2: "B1:B1 D1:D1"}
        for user, wanted in table.items():
            self.assertEqual(check_pure(self, hidden_uses, book, user, A1), [area_of(text) for text in wanted.split()])
            for name in ("A2", "A3", "A4", "Z9"):
                self.assertEqual(hidden_uses(book, user, at(name)), [])

    def test_released_calls_of_what_may_be_read(self):
        book = book_of({"A1": "=RSUM(C1:C9)"}, [], [grant("C1:C9", to=[0])])
        self.assertEqual([hidden_uses(book, user, A1) for user in range(3)], [[], [area_of("C1:C9")], [area_of("C1:C9")]])

    def test_graph(self):
        source = source_of(51)
        for _ in range(60):
            book = small_book(source, 4, 4)
            for user in range(3):
                graph = check_pure(self, lambda given, other: graph_for(given, other).ranges, book, user)
                self.assertEqual(graph, {cell: hidden_uses(book, user, cell) for cell in spelled.formula_cells(book[2])})
                edges = spelled.hidden_edges(book, user)
                for cell in graph:
                    self.assertEqual({other for place in graph[cell] for other in cells_of(place)}, edges[cell])


class FlowTest(unittest.TestCase):
    def check(self, flow, book):
        self.assertEqual(flow.book, book)
        self.assertEqual({cell: flow.label(cell) for cell in book[2]}, {cell: spelled.label(book, cell) for cell in book[2]})
        for cell in cells_of(((0, 0), (4, 4))):
            self.assertEqual([user for user in range(book[1]) if flow.sees(user, cell)], flow.label(cell))

    def test_entries(self):
        book = book_of({"A1": "=A2", "A2": "1", "B1": "5"}, SECRET)
        flow = Flow(book)
        self.check(flow, book)
        steps = [("A2", "=B1", [0]), ("A2", "=RSUM(B1)", [0]), ("B1", "", [0]), ("A2", "2", [0, 1, 2]), ("A1", "=A1", [0, 1, 2]),
                 ("A1", "=C1", [0, 1, 2]), ("C1", "=B2", [0]), ("A1", "", [0, 1, 2]), ("C1", "", [0, 1, 2])]
        for name, text, label in steps:
            book = apply_edit(book, ("cell", at(name), text, 1 if text else None))
            self.assertIsNone(flow.enter(book, [at(name)]))
            self.check(flow, book)
            self.assertEqual(flow.label(at(name if name != "B1" else "A2")), label)

    def test_several_entries_at_once(self):
        book = book_of({"A1": "=A2", "A2": "1"}, SECRET)
        flow = Flow(book)
        self.check(flow, book)
        other = book_of({"A1": "=A2", "A2": "=A3", "A3": "=B1"}, SECRET)
        flow.enter(other, [at("A2"), at("A3"), at("D4")])
        self.check(flow, other)
        self.assertEqual(flow.label(A1), [0])
        flow.enter(other, [])
        self.check(flow, other)

    def test_rules_and_grants(self):
        entries = {"A1": "=A2", "A2": "=RSUM(B1:B9)", "B1": "5"}
        flow = Flow(book_of(entries))
        self.check(flow, flow.book)
        steps = [(SECRET, [], ["B1:B9"], [0]), (SECRET, [grant("B1:B9")], [], [0, 1]), (SECRET, [grant("B1:B9", revoked=True)], [], [0]),
                 (SECRET, [grant("B1:B9", revoked=True), grant("B1:B9", to=[2])], [], [0, 2]),
                 (SECRET + [("A2:A2", [2])], [grant("B1:B9", to=[1, 2])], ["A2:A2"], [2]),
                 (SECRET + [("A1:A2", [0, 1])], [grant("B1:B9", to=[1, 2])], ["A1:A1", "A2:A2"], [0, 1]), ([], [], ["A1:B99"], [0, 1, 2])]
        for rules, grants, areas, label in steps:
            book = book_of(entries, rules, grants)
            self.assertIsNone(flow.turn_rules(book, [area_of(text) for text in areas]))
            self.check(flow, book)
            self.assertEqual(flow.label(A1), label)

    def test_a_giver_who_owns_the_range_no_more(self):
        book = book_of({"A1": "=RSUM(B1:B9)"}, SECRET, [grant("B1:B9")])
        flow = Flow(book)
        self.assertEqual(flow.label(A1), [0, 1])
        rule = (area_of("B3:B3"), [0], [0], [1])
        book = apply_edit(book, ("rule", 2, rule))
        flow.turn_rules(book, [rule[0]])
        self.assertEqual(flow.label(A1), [0])
        self.check(flow, book)

    def test_a_user_who_is_asked_for_late(self):
        book = book_of({"A1": "=B1"}, SECRET)
        flow = Flow(book)
        self.assertFalse(flow.sees(1, A1))
        book = apply_edit(book, ("cell", A1, "=C1", 0))
        flow.enter(book, [A1])
        self.assertTrue(flow.sees(2, A1) and flow.sees(1, A1))

    def test_long_chains(self):
        cells = cells_of(SHEET)
        book = book_of({show_address(cell): f"={show_address(cells[index + 1])}" for index, cell in enumerate(cells[:-1])})
        flow = Flow(book)
        self.assertEqual(flow.label(A1), [0, 1, 2])
        for place, label in [("Z99:Z99", [2]), ("Z98:Z99", [1])]:
            book = book[:4] + (book[4][:1] + [(area_of(place), label, [], [])], [])
            flow.turn_rules(book, [area_of("Z98:Z99")])
            self.assertEqual((flow.label(A1), flow.label(cells[-1])), (label, label))
        book = apply_edit(book, ("cell", cells[9], "5", 0))
        flow.enter(book, [cells[9]])
        self.assertEqual((flow.label(cells[8]), flow.label(cells[10])), ([0, 1, 2], [1]))
        book = apply_edit(book, ("cell", cells[-1], "=A1", 0))
        flow.enter(book, [cells[-1]])
        self.assertEqual((flow.label(cells[8]), flow.label(cells[10])), ([0, 1, 2], [1]))

    def change(self, book, source):
        """Another book, and the call by which a flow goes on with it."""
        kind = source.randrange(4)
        if kind < 2:
            cells = [(source.randrange(4), source.randrange(4)) for _ in range(source.randrange(1, 4))]
            entries, authors = dict(book[2]), dict(book[3])
            for cell in cells:
                entries.pop(cell, None), authors.pop(cell, None)
                if source.random() < 0.8:
                    entries[cell], authors[cell] = small_text(source, 4, 4, 20), source.randrange(3)
            book = ("book", 3, entries, authors, book[4], book[5])
            return book, lambda flow: flow.enter(book, cells)
        rules, grants, areas = list(book[4]), list(book[5]), []
        if kind == 2:
            rules.append(small_rule(source, 3, 4, 4))
            areas.append(rules[-1][0])
        else:
            grants.append(small_grant(source, 3, called_areas(book[2])))
            grants = [given[:4] + (source.random() < 0.3,) for given in grants]
        if kind == 2 and len(rules) > 3:
            areas.append(rules.pop(1)[0])
        book = book[:4] + (rules, grants)
        return book, lambda flow: flow.turn_rules(book, areas)

    def test_against_the_words_of_the_document(self):
        source = source_of(52)
        for _ in range(15):
            book = small_book(source, 4, 4)
            flow = Flow(book)
            for _ in range(12):
                book, goes_on = self.change(book, source)
                goes_on(flow)
                self.check(flow, book)
                self.assertEqual(labels(book), {cell: flow.label(cell) for cell in book[2]})

    def test_books_are_not_modified(self):
        source = source_of(53)
        book = small_book(source, 4, 4)
        flow = Flow(book)
        seen = []
        for _ in range(12):
            seen.append((book, repr(book)))
            book, goes_on = self.change(book, source)
            goes_on(flow)
            flow.label(A1).append(99)
            self.check(flow, book)
        self.assertEqual([repr(one) for one, _ in seen], [text for _, text in seen])


class InsertionTest(unittest.TestCase):
    def test_what_each_user_sees(self):
        source = source_of(70)
        more = 0
        for _ in range(80):
            book = small_book(source, 4, 4)
            kind, start, count = source.choice(["column", "row"]), source.randrange(6), source.randrange(1, 5)
            made, shift = inserted(book, kind, start, count), Shift(True, kind, start, count)
            for user in range(3):
                for cell in cells_of(((0, 0), (4, 4))):
                    before, behind = sees(book, user, cell), sees(made, user, shift.address(cell))
                    self.assertTrue(before or not behind)
                    more += before
        self.assertGreater(more, 500)

    def test_new_addresses_may_be_hidden(self):
        book = book_of({"A1": "=SUM(C1:D1)"}, [("E1:Z1", [0]), ("A1:B9", [0, 1, 2])])
        book = book[:4] + ([(SHEET, [0], [0], [0]), (area_of("A1:D9"), [0, 1], [0], [0])], [])
        self.assertEqual(label_of(book, A1), [0, 1])
        self.assertEqual(label_of(inserted(book, "column", 3, 1), A1), [0, 1])
        book = book[:4] + ([(SHEET, [0], [0], [0]), (area_of("A1:C9"), [0, 1], [0], [0]), (area_of("D1:D9"), [0, 1], [0], [0])], [])
        self.assertEqual(label_of(book, A1), [0, 1])
        self.assertEqual(label_of(inserted(book, "column", 3, 1), A1), [0])


if __name__ == "__main__":
    unittest.main()
