"""Points 105 to 107."""

import copy
import unittest

from labelgrid.addresses import SHEET
from labelgrid.edits import apply_edit, apply_edits, empty_book
from labelgrid.errors import EditError
from labelgrid.undoing import History
from tests.helpers import boxes_in, random_book, random_edit, source_of

A1, B1 = (0, 0), (1, 0)
GRANT = ((A1, B1), ["RSUM"], [0, 1], 0, False)
REVOKED = GRANT[:4] + (True,)
RULE = ((A1, B1), [0], [1], [])
OTHER = ((A1, A1), [1], [1], [])


def cell(text, user, address=A1):
    return ("cell", address, text, user)


class Model:
    """Point 107 word by word, beside a history."""

    def __init__(self, book):
        self.start = book
        self.steps = []

    def thing(self, edit, grants):
        if edit[0] == "cell":
            return edit[:2]
        if edit[0] == "grant":
            return ("grant", grants)
        return ("grant", edit[1]) if edit[0] == "revoke" else ("rules", None)

    def do(self, user, edit, grants):
        thing = self.thing(edit, grants)
        before = [step["edit"] for step in self.steps if step["stands"] and step["thing"] == thing]
        for step in self.steps:
            if step["user"] == user:
                step["redo"] = 0
        self.steps.append({"user": user, "edit": edit, "thing": thing, "stands": True, "before": before, "redo": 0})

    def undo(self, user):
        mine = [step for step in self.steps if step["user"] == user and step["stands"]]
        if not mine:
            return False
        behind = self.steps[self.steps.index(mine[-1]) + 1:]
        if any(step["stands"] and step["thing"] == mine[-1]["thing"] for step in behind):
            return False
        mine[-1]["stands"] = False
        mine[-1]["redo"] = 1 + max(step["redo"] for step in self.steps)
        return True

    def redo(self, user):
        mine = [step for step in self.steps if step["user"] == user and step["redo"] > 0]
        if not mine:
            return False
        step = max(mine, key=lambda step: step["redo"])
        now = [other["edit"] for other in self.steps if other["stands"] and other["thing"] == step["thing"]]
        if len(now) != len(step["before"]) or any(one is not other for one, other in zip(now, step["before"])):
            return False
        step["stands"], step["redo"] = True, 0
        return True

    def grants(self):
        grants = list(self.start[5])
        for step in self.steps:
            if step["edit"][0] == "grant":
                grants.append(step["edit"][1])
                if not step["stands"]:
                    grants[-1] = grants[-1][:4] + (True,)
        for step in self.steps:
            if step["edit"][0] == "revoke" and step["stands"]:
                index = step["edit"][1]
                grants[index] = grants[index][:4] + (step["edit"][2],)
        return grants

    def book(self):
        edits = [step["edit"] for step in self.steps if step["stands"] and step["edit"][0] not in ("grant", "revoke")]
        return apply_edits(self.start, edits)[:5] + (self.grants(),)

    def standing(self):
        return [(step["user"], step["edit"]) for step in self.steps if step["stands"]]


class UndoTest(unittest.TestCase):
    def setUp(self):
        self.history = History(empty_book(2))

    def do_all(self, steps):
        for user, edit in steps:
            self.history.do(user, edit)

    def test_example(self):
        self.do_all([(0, cell("1", 0)), (1, cell("2", 1))])
        history = self.history
        found = [history.undo(0), history.undo(1), history.undo(0), history.redo(1), history.redo(0), history.redo(1)]
        self.assertEqual(found, [False, True, True, False, True, True])
        self.assertEqual(history.book[2], {A1: "2"})

    def test_nothing_to_undo_or_redo(self):
        self.assertEqual((self.history.undo(0), self.history.redo(0), self.history.standing()), (False, False, []))
        self.do_all([(0, cell("1", 0))])
        self.assertEqual((self.history.undo(1), self.history.redo(1), self.history.redo(0)), (False, False, False))
        self.assertEqual(self.history.book[2], {A1: "1"})

    def test_do_returns_nothing(self):
        self.assertIsNone(self.history.do(0, cell("1", 0)))

    def test_behind_a_step_at_another_thing(self):
        self.do_all([(0, cell("1", 0)), (1, cell("2", 1, B1)), (1, ("rule", 1, RULE))])
        self.assertTrue(self.history.undo(0))
        self.assertEqual(self.history.book[2], {B1: "2"})
        self.assertEqual(self.history.standing(), [(1, cell("2", 1, B1)), (1, ("rule", 1, RULE))])

    def test_only_the_last_step_is_undone(self):
        self.do_all([(0, cell("1", 0, B1)), (0, cell("1", 0)), (1, cell("2", 1))])
        before = copy.deepcopy(self.history.book)
        self.assertFalse(self.history.undo(0))
        self.assertEqual(self.history.book, before)

    def test_several_are_undone_and_redone(self):
        self.do_all([(0, cell("1", 0)), (0, cell("2", 0)), (0, cell("3", 0, B1))])
        self.assertEqual([self.history.undo(0) for _ in range(4)], [True, True, True, False])
        self.assertEqual(self.history.book, empty_book(2))
        books = []
        for _ in range(3):
            self.assertTrue(self.history.redo(0))
            books.append(self.history.book[2])
        self.assertEqual(books, [{A1: "1"}, {A1: "2"}, {A1: "2", B1: "3"}])
        self.assertFalse(self.history.redo(0))

    def test_no_redo_behind_a_further_edit(self):
        self.do_all([(0, cell("1", 0))])
        self.history.undo(0)
        self.do_all([(0, cell("5", 0, B1))])
        self.assertFalse(self.history.redo(0))
        self.assertTrue(self.history.undo(0))
        self.assertTrue(self.history.redo(0))
        self.assertFalse(self.history.redo(0))
        self.assertEqual(self.history.book[2], {B1: "5"})

    def test_redo_behind_an_edit_of_another_user(self):
        self.do_all([(0, cell("1", 0))])
        self.history.undo(0)
        self.do_all([(1, cell("5", 1, B1))])
        self.assertTrue(self.history.redo(0))
        self.assertEqual(self.history.book[2], {A1: "1", B1: "5"})

    def test_redo_where_other_steps_stand(self):
        self.do_all([(0, cell("1", 0))])
        self.history.undo(0)
        self.do_all([(1, cell("5", 1))])
        self.assertFalse(self.history.redo(0))
        self.assertTrue(self.history.undo(1))
        self.assertTrue(self.history.redo(0))
        self.assertFalse(self.history.redo(1))
        self.assertEqual(self.history.book[2], {A1: "1"})

    def test_equal_steps_of_another_are_not_the_same(self):
        self.do_all([(0, cell("1", 0)), (1, cell("2", 1))])
        self.assertEqual([self.history.undo(1), self.history.undo(0)], [True, True])
        self.do_all([(0, cell("1", 0))])
        self.assertFalse(self.history.redo(1))

    def test_blanks(self):
        self.do_all([(0, cell("1", 0)), (1, ("cell", A1, "", None))])
        self.assertEqual([self.history.undo(0), self.history.undo(1)], [False, True])
        self.assertEqual((self.history.book[2], self.history.book[3]), ({A1: "1"}, {A1: 0}))
        self.assertTrue(self.history.redo(1))
        self.assertEqual(self.history.book, empty_book(2))

    def test_rules_are_one_thing(self):
        self.do_all([(0, ("rule", 1, RULE)), (1, ("rule", 2, OTHER))])
        self.assertFalse(self.history.undo(0))
        self.do_all([(0, ("unrule", 1))])
        self.assertFalse(self.history.undo(1))
        self.assertTrue(self.history.undo(0))
        self.assertEqual(self.history.book[4][1:], [RULE, OTHER])
        self.assertEqual([self.history.undo(1), self.history.undo(0)], [True, True])
        self.assertEqual(self.history.book, empty_book(2))
        self.assertEqual([self.history.redo(1), self.history.redo(0), self.history.redo(1)], [False, True, True])
        self.assertEqual(self.history.book[4], empty_book(2)[4] + [RULE, OTHER])

    def test_grants_stay_but_are_revoked(self):
        self.do_all([(0, ("grant", GRANT))])
        self.assertTrue(self.history.undo(0))
        self.assertEqual(self.history.book[5], [REVOKED])
        self.assertEqual(self.history.standing(), [])
        self.assertTrue(self.history.redo(0))
        self.assertEqual(self.history.book[5], [GRANT])
        self.assertEqual(self.history.standing(), [(0, ("grant", GRANT))])

    def test_grants_that_are_revoked(self):
        self.do_all([(0, ("grant", GRANT)), (1, ("revoke", 0, True))])
        self.assertEqual([self.history.undo(0), self.history.undo(1), self.history.undo(0)], [False, True, True])
        self.assertEqual(self.history.book[5], [REVOKED])
        self.assertEqual([self.history.redo(1), self.history.redo(0), self.history.redo(1)], [False, True, True])
        self.assertEqual(self.history.book[5], [REVOKED])

    def test_grants_that_are_given_back_in_between(self):
        self.do_all([(0, ("grant", GRANT))])
        self.history.undo(0)
        self.do_all([(1, ("revoke", 0, False))])
        self.assertEqual(self.history.book[5], [GRANT])
        self.assertFalse(self.history.redo(0))
        self.assertTrue(self.history.undo(1))
        self.assertEqual(self.history.book[5], [REVOKED])
        self.assertTrue(self.history.redo(0))
        self.assertEqual(self.history.book[5], [GRANT])

    def test_grants_of_the_first_book(self):
        self.history = History(empty_book(2)[:5] + ([GRANT, REVOKED],))
        self.do_all([(0, ("revoke", 0, True)), (1, ("revoke", 1, False)), (0, ("grant", GRANT))])
        self.assertEqual(self.history.book[5], [REVOKED, GRANT, GRANT])
        self.assertEqual([self.history.undo(1), self.history.undo(0), self.history.undo(0)], [True, True, True])
        self.assertEqual(self.history.book[5], [GRANT, REVOKED, REVOKED])

    def test_an_edit_that_does_not_fit(self):
        self.do_all([(0, cell("1", 0)), (0, cell("2", 0, B1))])
        self.history.undo(0)
        before = copy.deepcopy(self.history.book)
        for edit in [("cell", B1, "", None), cell("=", 0), cell("1", 5), ("unrule", 0), ("revoke", 0, True)]:
            with self.assertRaises(EditError):
                self.history.do(0, edit)
            self.assertEqual(self.history.book, before)
            self.assertEqual(self.history.standing(), [(0, cell("1", 0))])
        self.assertTrue(self.history.redo(0))

    def test_nothing_is_modified_or_shared(self):
        start = empty_book(2)
        history = History(start)
        edits = [("grant", copy.deepcopy(GRANT)), ("rule", 1, copy.deepcopy(RULE)), cell("1", 0)]
        before = copy.deepcopy((start, edits))
        for edit in edits:
            history.do(0, edit)
        kept = history.book
        standing = history.standing()
        self.assertEqual([box for box in boxes_in(standing) if box in boxes_in((edits, kept))], [])
        seen = copy.deepcopy(kept)
        for _ in range(3):
            history.undo(0)
        standing.clear()
        self.assertEqual(((start, edits), kept), (before, seen))

    def test_against_the_words_of_the_document(self):
        source = source_of(107)
        for _ in range(60):
            start = random_book(source, source.randrange(6))
            history, model = History(start), Model(start)
            for _ in range(60):
                user, kind = source.randrange(3), source.randrange(5)
                if kind == 0:
                    self.assertEqual(history.undo(user), model.undo(user))
                elif kind == 1:
                    self.assertEqual(history.redo(user), model.redo(user))
                else:
                    edit = random_edit(source, history.book)
                    try:
                        apply_edit(history.book, edit)
                    except EditError:
                        self.assertRaises(EditError, history.do, user, edit)
                    else:
                        model.do(user, edit, len(history.book[5]))
                        history.do(user, edit)
                self.assertEqual(history.book, model.book())
                self.assertEqual(history.standing(), model.standing())


if __name__ == "__main__":
    unittest.main()
