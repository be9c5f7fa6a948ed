"""Points 134 to 138."""

import copy
import unittest

from labelgrid.addresses import SHEET
from labelgrid.asking import Counter, ledger_right
from labelgrid.desk import Desk
from labelgrid.edits import empty_book
from labelgrid.low import alike, secret
from tests import spelled
from tests.helpers import area_of, at, book_of, boxes_in, grant_of, num, small_book, source_of, users_from
from tests.slowdesk import SlowDesk, random_area, random_deed

RIGHTS = ("refused", "rights")
SIZE = ("refused", "size")
SPENT = ("refused", "spent")


def budget(text, functions=("RSUM",), to=(1,), count=1):
    return ("budget", area_of(text), list(functions), list(to), count)


def question(text, function="RSUM"):
    return ("ask", function, area_of(text))


class CounterTest(unittest.TestCase):
    def counter(self, entries=(), rules=(("B1:B9", [0]),), grants=()):
        return Counter(Desk(book_of(dict(entries), list(rules), list(grants))))

    def check(self, counter, *steps):
        """Each step has a user, a deed and the answer."""
        for user, deed, answer in steps:
            before = copy.deepcopy(deed)
            found = counter.perform(user, deed)
            self.assertEqual(found, answer, (user, deed))
            self.assertEqual(deed, before)
            self.assertEqual([box for box in boxes_in(found) if box in boxes_in(deed)], [])

    def test_example(self):
        counter = Counter(Desk(empty_book(2)))
        area = ((0, 0), (0, 2))
        self.assertEqual([counter.perform(0, ("set", (0, 1), "5")), counter.perform(0, ("rule", area, [0], [0], [0]))], [("ok", 1), ("ok",)])
        self.assertEqual([counter.perform(0, ("budget", area, ["RSUM"], [1], 1)), counter.perform(0, ("ask", "RSUM", area))],
                         [("ok", 0), ("value", ("num", 50000), None)])
        self.assertEqual([counter.perform(1, ("ask", "RSUM", area)), counter.perform(1, ("ask", "RSUM", area)), counter.perform(1, ("ask", "RMAX", area))],
                         [("value", ("num", 50000), 0), ("refused", "spent"), ("refused", "rights")])

    def test_budgets(self):
        counter = self.counter(rules=[("B1:B9", [0]), ("C1:C9", [0], [0], [1])])
        self.check(counter, (0, budget("B1:B2", ["RSUM", "RMAX"], [0, 2], 5), ("ok", 0)), (1, budget("C1:C9", to=[1, 2], count=0), ("ok", 1)),
                   (0, budget("B1:B2", to=[], count=1000), ("ok", 2)))
        self.assertEqual(counter.budgets(), [(area_of("B1:B2"), ["RSUM", "RMAX"], [0, 2], 0, [5, 5]), (area_of("C1:C9"), ["RSUM"], [1, 2], 1, [0, 0]),
                                             (area_of("B1:B2"), ["RSUM"], [], 0, [])])

    def test_budgets_that_are_refused(self):
        counter = self.counter(rules=[("C1:C9", [0], [0], [1])])
        self.check(counter, (1, budget("B1:B2"), RIGHTS), (0, budget("C1:C2"), RIGHTS), (1, budget("B9:C9"), RIGHTS), (0, budget("A1:B99"), ("ok", 0)))
        for index in range(1, 40):
            self.check(counter, (1, budget("C2:C3"), ("ok", index)))
        self.check(counter, (1, budget("C2:C3"), SIZE), (0, budget("C2:C3"), RIGHTS), (0, budget("A1:B99"), SIZE))
        self.assertEqual(len(counter.budgets()), 40)

    def test_values(self):
        counter = self.counter({"B1": "4", "B2": "=A1", "B3": "x", "A1": "2"})
        every = list(spelled.RELEASED)
        self.check(counter, (0, budget("B1:B4", every, count=9), ("ok", 0)), (1, question("B1:B4"), ("value", num(6), 8)),
                   (1, question("B1:B4", "RCOUNT"), ("value", num(2), 7)), (1, question("B1:B4", "RAVG"), ("value", num(3), 6)),
                   (1, question("B1:B4", "RMIN"), ("value", num(2), 5)), (1, question("B1:B4", "RMAX"), ("value", num(4), 4)),
                   (0, ("set", at("A1"), "=1/0"), ("ok", 2)), (1, question("B1:B4"), ("value", ("error", "zero"), 3)))

    def test_circles(self):
        counter = self.counter({"B1": "=1/0", "B2": "=B2", "A1": "=A1", "A2": "=C1/0"})
        self.check(counter, (0, budget("B1:B3", count=5), ("ok", 0)), (1, question("B1:B3"), ("value", ("error", "cycle"), 4)),
                   (0, question("B1:B3"), ("value", ("error", "cycle"), None)), (1, question("A1:A2"), ("value", ("error", "cycle"), None)),
                   (1, question("A2:A3"), ("value", ("error", "zero"), None)), (0, question("A1:B3"), ("value", ("error", "cycle"), None)))

    def test_ranges_that_are_seen(self):
        counter = self.counter({"A1": "1", "A2": "=RSUM(B1:B2)", "B1": "5"}, grants=[grant_of("B1:B2")])
        self.check(counter, (0, budget("A1:A2", to=[1, 2], count=2), ("ok", 0)), (1, question("A1:A2"), ("value", num(6), None)),
                   (1, question("A1:Z1", "RMAX"), RIGHTS), (1, question("C1:Z99", "RCOUNT"), ("value", num(0), None)), (2, question("A1:A2"), ("value", num(6), 1)),
                   (0, question("A1:Z99"), ("value", num(11), None)))
        self.assertEqual((counter.ledger(), counter.budgets()[0][4]), ([(2, "RSUM", area_of("A1:A2"), 0)], [2, 1]))

    def test_ranges_of_which_a_part_is_seen(self):
        counter = self.counter({"A1": "1", "B1": "5", "C1": "=B1"})
        self.check(counter, (1, question("A1:B1"), RIGHTS), (1, question("A1:C1"), RIGHTS), (1, question("C1:C1"), RIGHTS), (1, question("A1:A1"), ("value", num(1), None)),
                   (0, budget("A1:B1"), ("ok", 0)), (1, question("A1:B1"), ("value", num(6), 0)))

    def test_what_the_budget_has(self):
        counter = self.counter({"B1": "5"})
        self.check(counter, (0, budget("B1:B2", ["RMAX", "RMIN"], [0, 1]), ("ok", 0)), (1, question("B1:B2"), RIGHTS), (1, question("B1:B1", "RMAX"), RIGHTS),
                   (1, question("B1:B3", "RMAX"), RIGHTS), (2, question("B1:B2", "RMAX"), RIGHTS), (1, question("B1:B2", "RMIN"), ("value", num(5), 0)),
                   (1, question("B1:B2", "RMAX"), SPENT), (1, question("B1:B2"), RIGHTS), (2, question("B1:B2", "RMAX"), RIGHTS))

    def test_the_count_0(self):
        counter = self.counter({"B1": "5"})
        self.check(counter, (0, budget("B1:B2", count=0), ("ok", 0)), (1, question("B1:B2"), SPENT), (2, question("B1:B2"), RIGHTS))
        self.assertEqual(counter.ledger(), [])

    def test_several_budgets(self):
        counter = self.counter({"B1": "5"})
        self.check(counter, (0, budget("B1:B2", count=1, to=[1, 2]), ("ok", 0)), (0, budget("B1:B2", ["RMAX"], count=3), ("ok", 1)),
                   (0, budget("B1:B2", ["RMAX", "RSUM"], count=2), ("ok", 2)), (1, question("B1:B2"), ("value", num(5), 0)), (1, question("B1:B2"), ("value", num(5), 1)),
                   (1, question("B1:B2", "RMAX"), ("value", num(5), 2)), (1, question("B1:B2"), ("value", num(5), 0)), (1, question("B1:B2"), SPENT),
                   (2, question("B1:B2"), ("value", num(5), 0)), (2, question("B1:B2"), SPENT), (1, question("B1:B2", "RMAX"), ("value", num(5), 1)))
        self.assertEqual([one[4] for one in counter.budgets()], [[0, 0], [1], [0]])
        self.assertEqual([one[3] for one in counter.ledger()], [0, 2, 1, 2, 0, 1])

    def test_budgets_whose_giver_does_not_own_the_range_any_more(self):
        counter = self.counter({"B1": "5"}, [("B1:B9", [0], [0], [0, 2])])
        self.check(counter, (2, budget("B1:B2", count=5), ("ok", 0)), (0, budget("B1:B2", count=5), ("ok", 1)), (1, question("B1:B2"), ("value", num(5), 4)),
                   (0, ("rule", area_of("B2:B2"), [0], [0], [0]), ("ok",)), (1, question("B1:B2"), ("value", num(5), 4)),
                   (0, ("rule", area_of("B2:B2"), [0], [0], [2]), ("ok",)), (1, question("B1:B2"), ("value", num(5), 3)),
                   (2, ("rule", area_of("B2:B2"), [0], [0], []), ("ok",)), (1, question("B1:B2"), RIGHTS))
        self.assertEqual([one[3] for one in counter.ledger()], [0, 1, 0])

    def test_other_deeds(self):
        counter = self.counter({"B1": "5"})
        self.check(counter, (0, ("set", at("A1"), "7"), ("ok", 1)), (1, ("read", area_of("A1:B1")), ("values", [num(7), ("denied",)])), (1, ("set", at("A1"), "="), ("refused", "entry")),
                   (0, budget("B1:B2"), ("ok", 0)), (1, question("B1:B2"), ("value", num(5), 0)), (1, ("follow", area_of("A1:A2")), ("ok",)),
                   (0, ("undo", at("A1")), ("ok", 0)), (1, ("notices",), ("notices", [(at("A1"), None)])),
                   (1, ("audit",), ("audit", [(0, ("set", at("A1"), "7")), (0, ("undo", at("A1")))])))

    def test_the_desk_is_kept(self):
        desk = Desk(book_of({"B1": "5"}, [("B1:B9", [0])]))
        counter = Counter(desk)
        self.check(counter, (0, budget("B1:B2", count=2), ("ok", 0)), (1, question("B1:B2"), ("value", num(5), 1)))
        desk.perform(0, ("set", at("B2"), "3"))
        self.check(counter, (1, question("B1:B2"), ("value", num(8), 0)))
        # Questions and budgets stand in no journal.
        self.assertEqual([entry[1] for entry in desk.journal()], [("set", at("B2"), "3")])

    def test_what_is_returned_may_be_changed(self):
        counter = self.counter({"B1": "5"})
        passed = budget("B1:B2", count=2)
        counter.perform(0, passed)
        counter.perform(1, question("B1:B2"))
        for box in [passed[2], passed[3], counter.ledger(), *boxes_in(counter.budgets()).values()]:
            box.clear()
        self.assertEqual((counter.budgets(), counter.ledger()), ([(area_of("B1:B2"), ["RSUM"], [1], 0, [1])], [(1, "RSUM", area_of("B1:B2"), 0)]))


class LedgerTest(unittest.TestCase):
    BUDGETS = [(area_of("B1:B2"), ["RSUM", "RMAX"], [1, 2], 0, [2, 1]), (area_of("B1:B2"), ["RSUM"], [1], 0, [1]), (area_of("C1:C1"), ["RMIN"], [0], 1, [0])]

    def right(self, *entries):
        ledger = [(user, function, area_of(text), index) for user, function, text, index in entries]
        before = copy.deepcopy((self.BUDGETS, ledger))
        found = ledger_right(self.BUDGETS, ledger)
        self.assertEqual((self.BUDGETS, ledger), before)
        return found

    def test_ledgers_that_are_right(self):
        one, two, other = (1, "RSUM", "B1:B2", 0), (1, "RSUM", "B1:B2", 1), (2, "RMAX", "B1:B2", 0)
        for ledger in [[], [one], [one, one], [one, two, one, other], [other, two, one], [(1, "RMAX", "B1:B2", 0), one]]:
            self.assertIs(self.right(*ledger), True, ledger)

    def test_ledgers_that_are_not(self):
        one, two = (1, "RSUM", "B1:B2", 0), (1, "RSUM", "B1:B2", 1)
        for ledger in [[one, one, one], [two, two], [one, two, one, two], [(2, "RMAX", "B1:B2", 0), (2, "RSUM", "B1:B2", 0)], [(1, "RSUM", "B1:B2", 3)],
                       [(1, "RSUM", "B1:B2", -1)], [(1, "RSUM", "B1:B2", -2)], [(1, "RSUM", "B1:B3", 0)], [(1, "RSUM", "B1:B1", 0)], [(1, "RMIN", "B1:B2", 0)],
                       [(1, "RMAX", "B1:B2", 1)], [(0, "RSUM", "B1:B2", 0)], [(2, "RSUM", "B1:B2", 1)], [(0, "RMIN", "C1:C1", 2)], [one, (7, "RSUM", "B1:B2", 0)]]:
            self.assertIs(self.right(*ledger), False, ledger)

    def test_no_budgets(self):
        self.assertIs(ledger_right([], []), True)
        self.assertIs(ledger_right([], [(1, "RSUM", area_of("B1:B2"), 0)]), False)

    def test_indexes_from_the_end(self):
        for index, wanted in [(0, True), (1, False), (-1, False)]:
            self.assertIs(ledger_right(self.BUDGETS[:1], [(1, "RSUM", area_of("B1:B2"), index)]), wanted)


class SlowCounter(SlowDesk):
    """Points 134 to 136 word by word."""

    def __init__(self, book):
        SlowDesk.__init__(self, book)
        self.given = []
        self.ledger = []

    def do_budget(self, user, area, functions, to, count):
        if not self.owns(user, area):
            return RIGHTS
        if len(self.given) == 40:
            return SIZE
        self.given.append((area, functions, to, user, [count] * len(to)))
        return "ok", len(self.given) - 1

    def do_ask(self, user, function, area):
        value = spelled.call_value(self.book, area, function)
        if ("denied",) not in self.shown(user, area):
            return "value", value, None
        fit = [one for one in self.given if self.owns(one[3], one[0]) and one[0] == area and function in one[1] and user in one[2]]
        filled = [one for one in fit if one[4][one[2].index(user)]]
        if not filled:
            return SPENT if fit else RIGHTS
        filled[0][4][filled[0][2].index(user)] -= 1
        self.ledger.append((user, function, area, [at for at, one in enumerate(self.given) if one is filled[0]][0]))
        return "value", value, filled[0][4][filled[0][2].index(user)]


def random_question(source, book, areas):
    """A budget or a question; `areas` has the ranges of earlier ones."""
    if source.random() < 0.4 or not areas:
        areas.append(random_area(source, book, 4, 4))
        functions = [name for name in spelled.RELEASED if source.random() < 0.6] or ["RSUM"]
        return ("budget", areas[-1], functions, users_from(source, 3), source.randrange(3))
    return ("ask", source.choice(spelled.RELEASED), source.choice(areas))


class WholeTest(unittest.TestCase):
    def test_against_the_words_of_the_document(self):
        source = source_of(135)
        answers = {}
        for _ in range(25):
            book = small_book(source, 4, 4, 3, 50)
            counter, slow, areas = Counter(Desk(book)), SlowCounter(book), []
            for _ in range(30):
                user = source.randrange(3)
                deed = random_deed(source, slow.book) if source.random() < 0.3 else random_question(source, slow.book, areas)
                answer = counter.perform(user, deed)
                self.assertEqual(answer, slow.perform(user, deed), (user, deed))
                answers[(deed[0], answer[0], answer[0] == "value" and answer[2] is None)] = True
            self.assertEqual((counter.budgets(), counter.ledger()), (slow.given, slow.ledger))
            first = [(area, functions, to, by, [count + len([one for one in slow.ledger if one[3] == at and one[0] == user])
                                                for user, count in zip(to, counts)])
                     for at, (area, functions, to, by, counts) in enumerate(slow.given)]
            self.assertIs(ledger_right(first, counter.ledger()), True)
            if counter.ledger():
                self.assertIs(ledger_right(counter.budgets(), counter.ledger() * 2), False)
        self.assertLessEqual({("ask", "value", True), ("ask", "value", False), ("ask", "refused", False), ("budget", "ok", False), ("budget", "refused", False)}, set(answers))

    def test_two_worlds(self):
        # Point 138: as long as the books are alike and the budgets have told the same, all answers are the same.
        source = source_of(138)
        told = spent = 0
        for _ in range(120):
            book = small_book(source, 4, 4, 3, 50)
            book = book[:4] + ([(SHEET, [0, 1, 2], [0, 1, 2], [0, 1, 2])] + book[4][1:], [])
            other = copy.deepcopy(book)
            hidden = [cell for cell in book[2] if not spelled.may(book, 1, "read", cell)]
            for cell in hidden:
                if source.random() < 0.4:
                    other[2][cell] = source.choice(["1", "2", "=A1", "x"])
            desks, areas = (Desk(book), Desk(other)), []
            counters = [Counter(desk) for desk in desks]
            self.assertTrue(alike(1, book, other))
            for _ in range(40):
                user = source.choice([0, 1, 1, 2])
                deed = random_deed(source, desks[0].book) if source.random() < 0.4 else random_question(source, desks[0].book, areas)
                if deed[0] == "grant":
                    continue
                if deed[0] in ("set", "undo") and secret(1, desks[0].book, (user, deed)):
                    if source.random() < 0.5:
                        counters[0].perform(user, deed)
                    continue
                if not alike(1, desks[0].book, desks[1].book):
                    # A rule has let the user read what was secret.
                    break
                answers = [counter.perform(user, deed) for counter in counters]
                if user != 1:
                    continue
                if deed[0] == "ask" and answers[0][0] == "value" and answers[0][2] is not None:
                    told += 1
                    if answers[0][1] != answers[1][1]:
                        break
                spent += answers[0] == SPENT
                self.assertEqual(answers[0], answers[1], deed)
        self.assertGreater(min(told, spent), 10)


if __name__ == "__main__":
    unittest.main()
