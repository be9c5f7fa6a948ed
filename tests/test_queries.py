"""Points 63 to 66."""

import copy
import itertools
import unittest

from labelgrid.addresses import SHEET, cells_of
from labelgrid.queries import QueryView, ask, cells_in, columns_of, value_key
from tests import spelled
from tests.helpers import area_of, boxes_in, check_pure, num, random_range, source_of

VALUES = [None, num(-2), num(0), num(1), num(10), ("text", ""), ("text", "B"), ("text", "a"), ("text", "ab"), ("bool", False), ("bool", True),
          ("error", "cycle"), ("error", "name"), ("error", "range"), ("error", "value"), ("error", "zero")]
SIGNS = ["=", "!=", "<", "<="]
FUNCTIONS = ["SUM", "COUNT", "AVG", "MIN", "MAX"]


def table(rows, left=0, top=0):
    """The values of rows of values, and a dict of all their addresses."""
    cells = {(left + column, top + row): value for row, line in enumerate(rows) for column, value in enumerate(line)}
    return {cell: value for cell, value in cells.items() if value is not None}, {cell: True for cell in cells}


def text(characters):
    return ("text", characters)


def random_query(source, area):
    width = area[1][0] - area[0][0] + 1

    def columns(most):
        return [source.randrange(width) for _ in range(source.randrange(most + 1))]

    filters = [(column, source.choice(SIGNS), source.choice(VALUES)) for column in columns(2)]
    if source.random() < 0.5:
        return (area, filters, ("rows", columns(3), [(column, source.choice(["up", "down"])) for column in columns(2)]))
    return (area, filters, ("groups", columns(2), source.choice(FUNCTIONS), source.randrange(width)))


def random_values(source, cells, share=0.8):
    few = source.sample(VALUES, 5)
    found = {cell: source.choice(few) for cell in cells if source.random() < share}
    return {cell: value for cell, value in found.items() if value is not None}


class KeyTest(unittest.TestCase):
    def test_the_order(self):
        for one, other in itertools.product(VALUES, repeat=2):
            wanted = (VALUES.index(one) > VALUES.index(other)) - (VALUES.index(one) < VALUES.index(other))
            found = (value_key(one) > value_key(other)) - (value_key(one) < value_key(other))
            self.assertEqual(found, wanted, (one, other))

    def test_columns(self):
        area = area_of("B3:F9")
        query = (area, [(3, "=", None), (3, "<", num(1))], ("rows", [2, 0, 2], [(4, "up"), (0, "down")]))
        self.assertEqual(check_pure(self, columns_of, query), [0, 2, 3, 4])
        self.assertEqual(check_pure(self, cells_in, query, 5), [(1, 5), (3, 5), (4, 5), (5, 5)])
        query = (area, [(4, "=", None)], ("groups", [3, 1], "SUM", 0))
        self.assertEqual((columns_of(query), cells_in(query, 2)), ([0, 1, 3, 4], [(1, 2), (2, 2), (4, 2), (5, 2)]))
        self.assertEqual(columns_of((area, [], ("groups", [], "SUM", 4))), [4])
        self.assertEqual((columns_of((area, [], ("rows", [], []))), cells_in((area, [], ("rows", [], [])), 2)), ([], []))


class RowsTest(unittest.TestCase):
    def rows(self, lines, filters, columns, order=()):
        """The rows that are taken, by their numbers from 0 on, of a table somewhere on the sheet."""
        values, seen = table(lines, 3, 40)
        query = (((3, 40), (2 + len(lines[0]), 39 + len(lines))), list(filters), ("rows", list(columns), list(order)))
        found = check_pure(self, ask, query, values, seen)
        return [(row - 40, worth) for row, worth in found]

    def taken(self, lines, filters):
        return [row for row, _ in self.rows(lines, filters, [])]

    def test_example(self):
        values = {(0, 0): ("text", "x"), (1, 0): ("num", 30000), (0, 1): ("text", "y"), (1, 1): ("num", 10000), (0, 2): ("text", "x")}
        area = ((0, 0), (1, 2))
        seen = {(column, row): True for column in range(2) for row in range(3)}
        self.assertEqual(ask((area, [], ("rows", [0], [(1, "down")])), values, seen),
                         [(0, [("text", "x")]), (1, [("text", "y")]), (2, [("text", "x")])])
        self.assertEqual(ask((area, [], ("groups", [0], "COUNT", 1)), values, seen),
                         [([("text", "x")], ("num", 10000)), ([("text", "y")], ("num", 10000))])

    def test_filters(self):
        lines = [[value] for value in VALUES]
        for column, sign, value in itertools.product([0], SIGNS, VALUES):
            wanted = [row for row, other in enumerate(VALUES) if spelled.apply_operator(sign, other, value) == ("bool", True)]
            self.assertEqual(self.taken(lines, [(column, sign, value)]), wanted, (sign, value))
        self.assertEqual(self.taken(lines, [(0, "<", num(1))]), [0, 1, 2])
        self.assertEqual(self.taken(lines, [(0, "<=", None)]), [0, 1, 2, 5, 9])
        self.assertEqual(self.taken(lines, [(0, "=", text("a"))]), [7])
        self.assertEqual(self.taken(lines, [(0, "!=", num(0))]), [0, 1, 3, 4, 5, 6, 7, 8, 9, 10])
        self.assertEqual(self.taken(lines, [(0, "=", ("error", "zero"))]), [])

    def test_several_filters(self):
        lines = [[num(n), text("even" if n % 2 == 0 else "odd")] for n in range(8)]
        self.assertEqual(self.taken(lines, [(0, "<", num(6)), (1, "=", text("odd")), (0, "!=", num(3))]), [1, 5])
        self.assertEqual(self.taken(lines, [(0, "<", num(3)), (0, "!=", num(1))]), [0, 2])
        self.assertEqual(self.taken(lines, [(0, "<", num(3)), (0, "=", num(5))]), [])
        self.assertEqual(self.taken(lines, []), list(range(8)))

    def test_columns(self):
        lines = [[num(1), text("a"), None], [num(2), None, ("bool", True)]]
        self.assertEqual(self.rows(lines, [], [2, 0, 0]), [(0, [None, num(1), num(1)]), (1, [("bool", True), num(2), num(2)])])
        self.assertEqual(self.rows(lines, [(0, "=", num(2))], [1]), [(1, [None])])

    def test_orders(self):
        lines = [[num(2), text("a"), num(9)], [num(1), text("b"), num(8)], [num(2), text("b"), num(7)], [num(1), text("b"), num(6)],
                 [None, text("a"), num(5)]]

        def ordered(*order):
            return [row for row, _ in self.rows(lines, [], [], order)]

        self.assertEqual(ordered(), [0, 1, 2, 3, 4])
        self.assertEqual(ordered((0, "up")), [4, 1, 3, 0, 2])
        # Equal rows stay as they are, also if the order is "down".
        self.assertEqual(ordered((0, "down")), [0, 2, 1, 3, 4])
        self.assertEqual(ordered((1, "down")), [1, 2, 3, 0, 4])
        self.assertEqual(ordered((1, "up"), (0, "up")), [4, 0, 1, 3, 2])
        self.assertEqual(ordered((1, "down"), (0, "down")), [2, 1, 3, 0, 4])
        self.assertEqual(ordered((0, "up"), (1, "down"), (2, "up")), [4, 3, 1, 2, 0])
        self.assertEqual(ordered((0, "up"), (0, "down")), [4, 1, 3, 0, 2])
        self.assertEqual([row for row, _ in self.rows([[value] for value in VALUES[::-1]], [], [], [(0, "up")])],
                         list(range(len(VALUES)))[::-1])


class GroupsTest(unittest.TestCase):
    LINES = [[text("x"), num(1), num(5)], [text("y"), num(1), None], [text("x"), num(2), text("a")], [text("x"), num(1), num(2)],
             [None, num(1), ("bool", True)]]

    def groups(self, columns, function, column, filters=(), lines=None):
        values, seen = table(lines or self.LINES, 9, 90)
        query = (((9, 90), (11, 89 + len(lines or self.LINES))), list(filters), ("groups", list(columns), function, column))
        return check_pure(self, ask, query, values, seen)

    def test_columns(self):
        self.assertEqual(self.groups([], "SUM", 1), [([], num(6))])
        self.assertEqual(self.groups([0], "SUM", 1), [([None], num(1)), ([text("x")], num(4)), ([text("y")], num(1))])
        self.assertEqual(self.groups([1, 0], "COUNT", 2), [([num(1), None], num(0)), ([num(1), text("x")], num(2)),
                                                           ([num(1), text("y")], num(0)), ([num(2), text("x")], num(0))])
        self.assertEqual(self.groups([0, 0], "COUNT", 1)[1], ([text("x"), text("x")], num(3)))

    def test_functions(self):
        wanted = {"SUM": num(7), "COUNT": num(2), "AVG": ("num", 35000), "MIN": num(2), "MAX": num(5)}
        for function in FUNCTIONS:
            self.assertEqual(self.groups([], function, 2), [([], wanted[function])])
        self.assertEqual(self.groups([0], "AVG", 2), [([None], ("error", "zero")), ([text("x")], ("num", 35000)), ([text("y")], ("error", "zero"))])
        self.assertEqual(self.groups([0], "MAX", 2)[0], ([None], num(0)))

    def test_the_first_error(self):
        lines = [[num(1), text("a")], [num(2), ("error", "zero")], [num(1), ("error", "name")], [num(1), ("error", "value")]]
        self.assertEqual(self.groups([0], "COUNT", 1, (), lines), [([num(1)], ("error", "name")), ([num(2)], ("error", "zero"))])
        self.assertEqual(self.groups([], "MIN", 1, (), lines), [([], ("error", "zero"))])

    def test_filters(self):
        self.assertEqual(self.groups([0], "SUM", 2, [(1, "=", num(1)), (0, "=", text("x"))]), [([text("x")], num(7))])
        self.assertEqual(self.groups([], "SUM", 2, [(1, "<", num(0))]), [])


class SeenTest(unittest.TestCase):
    LINES = [[num(row), num(row * 10), num(row * 100)] for row in range(4)]

    def rows(self, unseen, filters, columns, order=()):
        values, seen = table(self.LINES)
        for cell in unseen:
            del seen[cell]
        return [row for row, _ in ask((((0, 0), (2, 3)), filters, ("rows", columns, list(order))), values, seen)]

    def test_columns_that_are_not_seen(self):
        self.assertEqual(self.rows([(0, 1), (1, 2)], [], [0]), [0, 2, 3])
        self.assertEqual(self.rows([(0, 1), (1, 2)], [], [1]), [0, 1, 3])
        self.assertEqual(self.rows([(0, 1), (1, 2)], [], [2]), [0, 1, 2, 3])
        self.assertEqual(self.rows([(0, 1), (1, 2)], [], [2, 1, 0]), [0, 3])
        self.assertEqual(self.rows([(0, 1), (1, 2)], [], []), [0, 1, 2, 3])

    def test_columns_of_filters_and_orders_alone(self):
        self.assertEqual(self.rows([(1, 1)], [(1, "!=", num(0))], [0]), [2, 3])
        self.assertEqual(self.rows([(1, 1)], [], [0], [(1, "up")]), [0, 2, 3])
        self.assertEqual(self.rows([(2, 0)], [(1, "!=", num(20)), (2, "<", num(999))], [0]), [1, 3])

    def test_columns_of_groups(self):
        values, seen = table(self.LINES)
        del seen[(1, 1)], seen[(2, 2)]
        area = ((0, 0), (2, 3))
        self.assertEqual(ask((area, [], ("groups", [], "SUM", 1)), values, seen), [([], num(50))])
        self.assertEqual(ask((area, [], ("groups", [2], "COUNT", 1)), values, seen), [([num(0)], num(1)), ([num(300)], num(1))])
        self.assertEqual(ask((area, [], ("groups", [0], "SUM", 0)), values, {}), [])

    def test_blank_cells(self):
        self.assertEqual(ask((((0, 0), (0, 2)), [], ("rows", [0], [])), {}, {(0, 1): True}), [(1, [None])])


class ViewTest(unittest.TestCase):
    def test_made_up_questions(self):
        source = source_of(66)
        for _ in range(150):
            area = random_range(source, 5, 8)
            cells = cells_of(((0, 0), (6, 9)))
            query, values = random_query(source, area), random_values(source, cells)
            seen = {cell: True for cell in cells if source.random() < 0.9}
            self.assertEqual(check_pure(self, ask, query, values, seen), spelled.answer(query, values, seen))
            view, work = QueryView(query, values, seen), 0
            self.assertEqual((view.work, view.answer()), (0, spelled.answer(query, values, seen)))
            for _ in range(4):
                changed = [source.choice(cells) for _ in range(source.randrange(5))]
                for cell in changed:
                    values.pop(cell, None)
                    values.update(random_values(source, [cell]))
                    if source.random() < 0.3:
                        seen[cell] = True
                    elif source.random() < 0.3:
                        seen.pop(cell, None)
                rows = sorted({cell[1] for cell in changed if spelled.inside(cell, area)})
                before = copy.deepcopy((values, seen, changed))
                self.assertEqual(view.turn(values, seen, changed), rows)
                self.assertEqual((values, seen, changed), before)
                work += len(rows)
                self.assertEqual((view.work, view.answer()), (work, spelled.answer(query, values, seen)))

    def test_rows_that_are_looked_at(self):
        values, seen = table([[num(row), num(1)] for row in range(6)], 2, 2)
        view = QueryView((((2, 2), (3, 7)), [(0, "<", num(9))], ("groups", [], "SUM", 0)), values, seen)
        self.assertEqual((view.answer(), view.work), ([([], num(15))], 0))
        values[(2, 3)] = num(5)
        # Columns at which the question does not look are in the range, too; other addresses are not.
        self.assertEqual(view.turn(values, seen, [(3, 4), (2, 3), (3, 3), (2, 3), (1, 5), (4, 6), (2, 1), (2, 8)]), [3, 4])
        self.assertEqual((view.answer(), view.work), ([([], num(19))], 2))
        self.assertEqual(view.turn(values, seen, []), [])
        self.assertEqual(view.turn(values, {}, [(3, 7), (3, 2)]), [2, 7])
        self.assertEqual((view.answer(), view.work), ([([], num(14))], 4))

    def test_what_is_passed_and_returned_may_change(self):
        values, seen = table([[num(2), num(1)], [num(1), num(2)]])
        query = (((0, 0), (1, 1)), [(0, "<", num(9))], ("rows", [0], [(0, "up")]))
        view = QueryView(query, values, seen)
        for box in [query[1], query[2][1], query[2][2], values, seen]:
            box.clear()
        found = view.answer()
        self.assertEqual(found, [(1, [num(1)]), (0, [num(2)])])
        found[0][1].append("x")
        found.clear()
        self.assertEqual(view.answer(), [(1, [num(1)]), (0, [num(2)])])
        # The filter still counts.
        view.turn({(0, 0): num(9), (0, 1): num(8)}, {cell: True for cell in cells_of(query[0])}, [(0, 0), (0, 1)])
        self.assertEqual(view.answer(), [(1, [num(8)])])
        self.assertEqual([box for box in boxes_in(view.answer()) if box in boxes_in(view.answer())], [])
        groups = (((0, 0), (1, 1)), [(0, "<", num(9))], ("groups", [0], "SUM", 1))
        values, seen = table([[num(2), num(1)], [num(1), num(2)]])
        view = QueryView(groups, values, seen)
        groups[1].clear()
        groups[2][1].clear()
        view.answer()[0][0].clear()
        self.assertEqual(view.answer(), [([num(1)], num(2)), ([num(2)], num(1))])
        view.turn(values, seen, [(0, 0)]).append(7)
        self.assertEqual(view.turn(values, seen, [(0, 0)]), [0])
        values[(0, 0)] = num(9)
        view.turn(values, seen, [(0, 0)])
        self.assertEqual(view.answer(), [([num(1)], num(2))])

    def test_great_tables(self):
        values = {cell: num((cell[0] * 7 + cell[1] * 3) % 11) for cell in cells_of(SHEET)}
        seen = {cell: True for cell in values}
        query = (SHEET, [(25, "<", num(8)), (3, "!=", num(4))], ("rows", list(range(26)), [(9, "down"), (4, "up"), (2, "down")]))
        self.assertEqual(ask(query, values, seen), spelled.answer(query, values, seen))
        view = QueryView((SHEET, [], ("groups", [0, 1], "SUM", 25)), values, seen)
        for row in range(99):
            values[(25, row)] = num(row)
            self.assertEqual(view.turn(values, seen, [(25, row), (0, row)]), [row])
        self.assertEqual((view.work, view.answer()), (99, ask((SHEET, [], ("groups", [0, 1], "SUM", 25)), values, seen)))
        self.assertEqual(view.turn(values, {}, list(values)), list(range(99)))
        self.assertEqual((view.work, view.answer()), (198, []))
        corner = (((25, 98), (25, 98)), [], ("rows", [0], []))
        self.assertEqual(ask(corner, values, seen), [(98, [num(98)])])


if __name__ == "__main__":
    unittest.main()
