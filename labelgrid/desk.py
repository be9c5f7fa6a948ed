"""Desks: books on which users perform deeds."""

from labelgrid.addresses import cells_of, inside
from labelgrid.calc import Calc
from labelgrid.cellsets import cells_in
from labelgrid.copies import deed_copy, edit_copy
from labelgrid.denoting import released_value
from labelgrid.edits import apply_edits, entry_of
from labelgrid.flow import Flow
from labelgrid.reasons import hidden_way
from labelgrid.refusals import refusal
from labelgrid.rights import allowed
from labelgrid.visible import DENIED, work_set

MOST_FOLLOWED = 4


class Sets:
    """The sets of each user at each address that may still be undone."""

    def __init__(self):
        # For a user and an address the pairs of the entry with its author before and behind each set.
        self._pairs = {}

    def note(self, user, address, before, behind):
        """Note a set."""
        self._pairs.setdefault((user, address), []).append((before, behind))

    def last(self, user, address):
        """Return the last pair, or None."""
        pairs = self._pairs.get((user, address), [])
        return pairs[-1] if pairs else None

    def drop(self, user, address):
        """Forget the last set, which was undone."""
        self._pairs[(user, address)].pop()

    def forget(self, area):
        """Forget all sets of the addresses of a range."""
        for user, address in list(self._pairs):
            if inside(address, area):
                del self._pairs[(user, address)]


class Desk:
    """A book with the journal of what was done on it."""

    def __init__(self, book):
        self.book = book
        self._calc = Calc(book[2])
        self._flow = Flow(book)
        self._entries = []
        self._sets = Sets()
        # For each user the pairs of a range that is followed and the list of what the user was told of it.
        self._followed = {}

    def perform(self, user, deed):
        """Perform a deed of a user and return the answer."""
        reason = self._reason(user, deed)
        if reason is not None:
            return ("refused", reason)
        kind = deed[0]
        if kind == "set" or kind == "undo":
            return self._put(user, deed)
        if kind == "rule" or kind == "grant" or kind == "revoke":
            return self._govern(user, deed)
        if kind == "follow":
            self._followed.setdefault(user, []).append((deed[1], self.shown(user, deed[1])))
            return ("ok",)
        return self._tell(user, deed)

    def journal(self):
        """Return the journal."""
        return [(user, deed_copy(deed), [edit_copy(edit) for edit in edits], list(readers))
                for user, deed, edits, readers in self._entries]

    def shown(self, user, area):
        """Return the list of what a user sees of the addresses of a range."""
        return [self._shown_at(user, address) for address in cells_of(area)]

    def call_value(self, function, area):
        """Return the value of a call of a released function, whoever asks."""
        return released_value(function, area, self._calc.results)

    def _shown_at(self, user, address):
        """Return what a user sees of an address."""
        return self._calc.value(address) if self._flow.sees(user, address) else DENIED

    def _reason(self, user, deed):
        """Return the reason for which a deed is refused, or None."""
        reason = refusal(self.book, user, deed)
        if reason is not None:
            return reason
        if deed[0] == "undo":
            pair = self._sets.last(user, deed[1])
            return "nothing" if pair is None or pair[1] != entry_of(self.book, deed[1]) else None
        if deed[0] == "follow":
            return "size" if len(self._followed.get(user, [])) >= MOST_FOLLOWED else None
        return None

    def _put(self, user, deed):
        """Perform a set or an undo."""
        address = deed[1]
        before = entry_of(self.book, address)
        if deed[0] == "set":
            text = deed[2]
            behind = (text, None if text == "" else user)
            self._sets.note(user, address, before, behind)
        else:
            behind = self._sets.last(user, address)[0]
            self._sets.drop(user, address)
        readers = {reader: True for reader in allowed(self.book[4], "read", address) + [user]}
        hidden = self._flow.unseen_set(user)
        edits = [] if before == behind else [("cell", address, behind[0], behind[1])]
        self._make(edits)
        self._entries.append((user, deed_copy(deed), edits, sorted(readers)))
        hidden = hidden | self._flow.unseen_set(user)
        return ("ok", len(cells_in(work_set(self._calc.graph, hidden, address, behind[0] == ""))))

    def _govern(self, user, deed):
        """Put a rule or a grant behind the others, or revoke a grant."""
        kind = deed[0]
        if kind == "rule":
            edit = ("rule", len(self.book[4]), deed[1:])
            self._sets.forget(deed[1])
        elif kind == "grant":
            edit = ("grant", deed[1:] + (user, False))
        else:
            edit = ("revoke", deed[1], True)
        self._make([edit])
        self._entries.append((user, deed_copy(deed), [edit_copy(edit)], list(range(self.book[1]))))
        return ("ok",)

    def _make(self, edits):
        """Do edits, and keep up the values and labels."""
        self.book = apply_edits(self.book, edits)
        for edit in edits:
            if edit[0] == "cell":
                self._calc.put(edit[1], edit[2])
                self._flow.enter(self.book, [edit[1]])
            else:
                self._flow.turn_rules(self.book, [edit[2][0]] if edit[0] == "rule" else [])

    def _tell(self, user, deed):
        """Return the answer to a deed that changes nothing."""
        kind = deed[0]
        if kind == "read":
            return ("values", self.shown(user, deed[1]))
        if kind == "entry":
            return ("entry", entry_of(self.book, deed[1])[0])
        if kind == "why":
            way = hidden_way(self.book, user, deed[1])
            return ("seen",) if way is None else ("way", way)
        if kind == "notices":
            return ("notices", self._news(user))
        return ("audit", [(actor, deed_copy(done)) for actor, done, _, readers in self._entries if user in readers])

    def _news(self, user):
        """Return the notices of a user, who is told them by this."""
        notices = []
        told = []
        for area, before in self._followed.get(user, []):
            now = self.shown(user, area)
            told.append((area, now))
            for address, old, new in zip(cells_of(area), before, now):
                if old != new:
                    notices.append((address, new))
        self._followed[user] = told
        return notices
