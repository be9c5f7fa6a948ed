"""Timelines: the books behind each of many edits."""

from labelgrid.drafts import Draft
from labelgrid.edits import apply_edit, entry_of
from labelgrid.errors import EditError


class Timeline:
    """A book and the edits that came to it; the edits up to a number may be forgotten."""

    def __init__(self, book):
        self.book = book
        # The first book that is known, its number, and the edits behind it.
        self._start = book
        self._forgotten = 0
        self._edits = []

    def add(self, edit):
        """Take an edit and return its number."""
        self.book = apply_edit(self.book, edit)
        self._edits.append(edit)
        return self.length()

    def length(self):
        """Return the number of the last edit, or 0."""
        return self._forgotten + len(self._edits)

    def book_at(self, count):
        """Return the book behind so many edits."""
        self._check(count)
        draft = Draft(self._start)
        for edit in self._edits[:count - self._forgotten]:
            # Each edit fitted when it came, so it is not looked at again.
            draft.put(edit)
        return draft.made()

    def changes_of(self, address):
        """Return the list of the triples of a number, the entry and its author, for each change."""
        changes = []
        now = entry_of(self._start, address)
        for number, edit in enumerate(self._edits, start=self._forgotten + 1):
            if edit[0] == "cell" and edit[1] == address and (edit[2], edit[3]) != now:
                now = (edit[2], edit[3])
                changes.append((number, edit[2], edit[3]))
        return changes

    def forget(self, count):
        """Forget up to so many edits: the books behind fewer edits are not known any more."""
        self._start = self.book_at(count)
        self._edits = self._edits[count - self._forgotten:]
        self._forgotten = count

    def _check(self, count):
        """Raise EditError if the book behind so many edits is not known."""
        if not self._forgotten <= count <= self.length():
            raise EditError("step")
