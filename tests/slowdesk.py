"""A desk that follows points 80 to 87 word by word, with the slow functions of tests/spelled.py."""

import copy

from labelgrid.addresses import cells_of
from labelgrid.entries import parse_entry
from labelgrid.errors import EntryError
from tests import spelled
from tests.helpers import small_rule, small_text, users_from


class SlowDesk:
    def __init__(self, book):
        self.book = copy.deepcopy(book)
        self.entries = []
        # The sets that were accepted, as lists of user, address, what was before, what it has made, and whether it
        # was undone; and the ranges of the rules that were put, in order with them.
        self.done = []
        self.followed = {}

    def perform(self, user, deed):
        return getattr(self, "do_" + deed[0])(user, *deed[1:])

    def may(self, user, right, address):
        return spelled.may(self.book, user, right, address)

    def owns(self, user, area):
        return all(self.may(user, "own", cell) for cell in cells_of(area))

    def entry(self, address):
        return self.book[2].get(address, ""), self.book[3].get(address)

    def shown(self, user, area):
        return [spelled.seen_value(self.book, user, cell) for cell in cells_of(area)]

    def put(self, user, deed, address, text, author):
        readers = sorted({reader for reader in range(self.book[1]) if self.may(reader, "read", address)} | {user})
        before = copy.deepcopy(self.book)
        edits = []
        if self.entry(address) != (text, author):
            edits = [("cell", address, text, author)]
            self.book[2].pop(address, None)
            self.book[3].pop(address, None)
            if text:
                self.book[2][address] = text
                self.book[3][address] = author
        self.entries.append((user, deed, edits, readers))
        return "ok", len(spelled.seen_work(before, self.book, user, address))

    def note(self, user, deed, edit):
        self.entries.append((user, deed, [edit], list(range(self.book[1]))))
        return ("ok",)

    def do_set(self, user, address, text):
        if not self.may(user, "write", address):
            return "refused", "rights"
        try:
            parse_entry(text)
        except EntryError:
            return "refused", "entry"
        made = (text, user if text else None)
        self.done.append([user, address, self.entry(address), made, False])
        return self.put(user, ("set", address, text), address, *made)

    def do_undo(self, user, address):
        if not self.may(user, "read", address) or not self.may(user, "write", address):
            return "refused", "rights"
        since = []
        for one in self.done:
            if one[0] == "rule":
                since = [] if spelled.inside(address, one[1]) else since
            elif one[0] == user and one[1] == address and not one[4]:
                since.append(one)
        if not since or self.entry(address) != since[-1][3]:
            return "refused", "nothing"
        since[-1][4] = True
        return self.put(user, ("undo", address), address, *since[-1][2])

    def do_read(self, user, area):
        return ("refused", "size") if len(cells_of(area)) > 100 else ("values", self.shown(user, area))

    def do_entry(self, user, address):
        return ("entry", self.entry(address)[0]) if self.may(user, "read", address) else ("refused", "rights")

    def do_why(self, user, address):
        if not self.may(user, "read", address):
            return "refused", "rights"
        way = spelled.shortest_way(self.book, user, address)
        return ("seen",) if way is None else ("way", way)

    def do_rule(self, user, area, read, write, own):
        if not self.owns(user, area):
            return "refused", "rights"
        if len(self.book[4]) >= 40:
            return "refused", "size"
        rule = (area, read, write, own)
        self.book[4].append(rule)
        self.done.append(["rule", area])
        return self.note(user, ("rule",) + rule, ("rule", len(self.book[4]) - 1, rule))

    def do_grant(self, user, area, functions, to):
        if not self.owns(user, area):
            return "refused", "rights"
        if len(self.book[5]) >= 40:
            return "refused", "size"
        grant = (area, functions, to, user, False)
        self.book[5].append(grant)
        return self.note(user, ("grant", area, functions, to), ("grant", grant))

    def do_revoke(self, user, index):
        grants = self.book[5]
        if index >= len(grants) or grants[index][4]:
            return "refused", "nothing"
        if grants[index][3] != user and not self.owns(user, grants[index][0]):
            return "refused", "rights"
        grants[index] = grants[index][:4] + (True,)
        return self.note(user, ("revoke", index), ("revoke", index, True))

    def do_follow(self, user, area):
        if len(cells_of(area)) > 100 or len(self.followed.get(user, [])) == 4:
            return "refused", "size"
        self.followed.setdefault(user, []).append([area, self.shown(user, area)])
        return ("ok",)

    def do_notices(self, user):
        notices = []
        for kept in self.followed.get(user, []):
            now = self.shown(user, kept[0])
            notices += [(cell, new) for cell, old, new in zip(cells_of(kept[0]), kept[1], now) if old != new]
            kept[1] = now
        return "notices", notices

    def do_audit(self, user):
        return "audit", [(actor, deed) for actor, deed, _, readers in self.entries if user in readers]


def random_area(source, book, columns, rows):
    """A range of a small sheet, often one that is called."""
    areas = [call[2] for call in spelled.calls_of(book)]
    if areas and source.random() < 0.7:
        return source.choice(areas)
    return small_rule(source, 1, columns, rows)[0]


def random_deed(source, book, columns=4, rows=4):
    """A deed on a small sheet, of any kind."""
    cell = (source.randrange(columns), source.randrange(rows))
    area = random_area(source, book, columns, rows)
    functions = [name for name in spelled.RELEASED if source.random() < 0.6] or ["RSUM"]
    kind = source.randrange(20)
    if kind < 6:
        wrong = source.choice(["=", "=A", "=SUM()", "x" * 61])
        return ("set", cell, source.choice(["", "7", wrong]) if source.random() < 0.3 else small_text(source, columns, rows, 40))
    if kind < 9:
        return ("undo", cell)
    if kind == 9:
        users = [users_from(source, book[1]) for _ in range(3)]
        return ("rule", small_rule(source, 1, columns, rows)[0], users[0], users[1], users[2])
    if kind < 12:
        return ("grant", area, functions, users_from(source, book[1], 0.6))
    if kind == 12:
        return ("revoke", source.randrange(len(book[5]) + 1))
    if kind == 13:
        return ("follow", area)
    if kind == 14:
        return ("read", ((0, 0), (columns, rows)))
    return [("notices",), ("audit",), ("entry", cell), ("why", cell), ("read", area)][kind - 15]
