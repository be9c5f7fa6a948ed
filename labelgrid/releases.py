"""Releases: the calls that grants release, how they came, and what flows through them."""

from labelgrid.addresses import place_key
from labelgrid.cellsets import cells_in, mask_of
from labelgrid.denoting import graph_of
from labelgrid.desk import Desk
from labelgrid.drafts import Draft
from labelgrid.grants import calls_at, live_grants, released_calls, releases_of
from labelgrid.hiding import Hiding


class Releasing:
    """The releases of a book that are kept up edit by edit."""

    def __init__(self, book):
        self._draft = Draft(book)
        self._live = live_grants(book[4], book[5])
        # For each address with calls that may be released these calls, and the releases of each of them.
        self._calls = {}
        self._releases = {}
        for address in book[2]:
            self._read(address)
            self._look_at(address)

    def make(self, edits):
        """Do edits, and return the list of the releases that are new then."""
        before = {address: self._releases[address] for address in self._releases}
        for edit in edits:
            self._draft.put(edit)
        entered = [edit[1] for edit in edits if edit[0] == "cell"]
        for address in entered:
            self._read(address)
        if len(entered) < len(edits):
            # Other grants may be live now.
            self._live = live_grants(self._draft.rules, self._draft.grants)
            entered.extend(list(self._calls))
        for address in entered:
            self._look_at(address)
        fresh = []
        for address in sorted({address: True for address in entered}, key=place_key):
            fresh.extend(_without(self._releases.get(address, []), before.get(address, [])))
        return fresh

    def _read(self, address):
        """Note the calls that may be released at an address."""
        self._calls.pop(address, None)
        calls = calls_at(self._draft.entries, address)
        if calls:
            self._calls[address] = calls

    def _look_at(self, address):
        """Note the releases at an address."""
        self._releases.pop(address, None)
        if address in self._calls:
            self._releases[address] = releases_of(self._draft.grants, self._live, address, self._calls[address])


def _without(found, others):
    """Return the list of the releases of an address that are not among others of it."""
    users_at = {(node, index): users for _, node, index, users in others}
    return [release for release in found if users_at.get((release[1], release[2])) != release[3]]


def releases(book):
    """Return the list of the releases of a book, by address row by row, node and index."""
    return released_calls(book)


def release_log(book, journal):
    """Return the list of the pairs of a step and a release that is new then."""
    log = [(0, release) for release in releases(book)]
    keeper = Releasing(book)
    for step, (_, _, edits, _) in enumerate(journal, start=1):
        log.extend([(step, release) for release in keeper.make(edits)])
    return log


def log_right(book, journal, log):
    """Return whether a log is a right paper for a book and a journal."""
    desk = Desk(book)
    for user, deed, _, _ in journal:
        desk.perform(user, deed)
    # What was refused is not in the journal of the desk, and only live grants release anything.
    return desk.journal() == journal and release_log(book, journal) == log


def cuts(book, user, address):
    """Return the list of the releases through which an address shows a user what the user may not read."""
    _, _, entries, _, rules, grants = book
    hiding = Hiding(book)
    closed = hiding.closed_set(user)
    deep = closed | graph_of(entries).reaching_set(closed)
    live = live_grants(rules, grants)
    found = []
    for cell in cells_in(hiding.set_below(user, address) & hiding.formula_set()):
        calls = [call for call in calls_at(entries, cell) if mask_of(call[2]) & deep != 0]
        found.extend([release for release in releases_of(grants, live, cell, calls) if user in release[3]])
    return found
