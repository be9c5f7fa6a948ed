"""Undoing and redoing the edits of many users."""

from labelgrid.copies import edit_copy
from labelgrid.edits import apply_edit, apply_edits, back_from


def thing_of(book, edit):
    """Return the thing that an edit of a book changes."""
    if edit[0] == "cell":
        return ("cell", edit[1])
    if edit[0] == "grant":
        return ("grant", len(book[5]))
    if edit[0] == "revoke":
        return ("grant", edit[1])
    return ("rules", None)


class Step:
    """An edit of a user; `before` has the indexes of the standing steps at its thing when it was done first."""

    def __init__(self, user, edit, thing, back, before):
        self.user = user
        self.edit = edit
        self.thing = thing
        self.back = back
        self.before = before
        self.undone = False

    def again(self):
        """Return the edit by which the step is redone."""
        if self.edit[0] == "grant":
            # The grant still stands in the book, revoked.
            return ("revoke", self.thing[1], False)
        return self.edit


class History:
    """A book and the steps that led to it."""

    def __init__(self, book):
        self.book = book
        self._steps = []
        # For each user the indexes of the steps that may be redone, the last one first undone.
        self._waiting = {}

    def do(self, user, edit):
        """Do an edit of a user."""
        made = apply_edit(self.book, edit)
        thing = thing_of(self.book, edit)
        back = back_from(self.book, edit)
        self._steps.append(Step(user, edit, thing, back, self._standing_at(thing)))
        self._waiting[user] = []
        self.book = made

    def undo(self, user):
        """Undo the last step of a user, and return whether that was possible."""
        mine = [at for at, step in enumerate(self._steps) if step.user == user and not step.undone]
        if not mine:
            return False
        step = self._steps[mine[-1]]
        if self._standing_at(step.thing)[-1] != mine[-1]:
            return False
        self.book = apply_edits(self.book, step.back)
        step.undone = True
        self._waiting[user].append(mine[-1])
        return True

    def redo(self, user):
        """Redo the step that a user has undone last, and return whether that was possible."""
        waiting = self._waiting.get(user, [])
        if not waiting:
            return False
        step = self._steps[waiting[-1]]
        if self._standing_at(step.thing) != step.before:
            return False
        self.book = apply_edit(self.book, step.again())
        step.undone = False
        self._waiting[user].pop()
        return True

    def standing(self):
        """Return the list of the pairs of a user and an edit of the steps that are not undone."""
        return [(step.user, edit_copy(step.edit)) for step in self._steps if not step.undone]

    def _standing_at(self, thing):
        """Return the indexes of the steps that are not undone and change a thing."""
        return [at for at, step in enumerate(self._steps) if step.thing == thing and not step.undone]
