"""Drafts: books on which edits are done one after the other."""

from labelgrid.addresses import SHEET
from labelgrid.copies import address_dict_copy, grant_copy, rule_copy
from labelgrid.entries import is_entry
from labelgrid.errors import EditError


class Draft:
    """A copy of a book, which edits change; books themselves are never changed."""

    def __init__(self, book):
        self.users = book[1]
        self.entries = address_dict_copy(book[2])
        self.authors = address_dict_copy(book[3])
        self.rules = [rule_copy(rule) for rule in book[4]]
        self.grants = [grant_copy(grant) for grant in book[5]]

    def made(self):
        """Return the book as it is now."""
        rules = [rule_copy(rule) for rule in self.rules]
        grants = [grant_copy(grant) for grant in self.grants]
        entries = address_dict_copy(self.entries)
        return ("book", self.users, entries, address_dict_copy(self.authors), rules, grants)

    def check(self, edit):
        """Raise EditError if an edit does not fit."""
        kind = edit[0]
        if kind == "cell":
            self.check_cell(edit[1], edit[2], edit[3])
        elif kind == "rule":
            self.check_rule(edit[1], edit[2])
        elif kind == "unrule":
            if not 1 <= edit[1] < len(self.rules):
                raise EditError("rule")
        elif kind == "grant":
            if edit[1][4]:
                raise EditError("grant")
        else:
            self.check_revoke(edit[1], edit[2])

    def check_cell(self, address, text, user):
        """Raise EditError if an entry of a user does not fit at an address."""
        if text == "":
            if user is not None or address not in self.entries:
                raise EditError("cell")
            return
        if user is None or not 0 <= user < self.users:
            raise EditError("user")
        if not is_entry(text):
            raise EditError("text")

    def check_rule(self, index, rule):
        """Raise EditError if a rule does not fit at an index."""
        if not 0 <= index <= len(self.rules):
            raise EditError("rule")
        if index == 0 and rule[0] != SHEET:
            raise EditError("rule")

    def check_revoke(self, index, revoked):
        """Raise EditError if a grant is not there to be revoked, or to be revoked no more."""
        if not 0 <= index < len(self.grants):
            raise EditError("grant")
        if self.grants[index][4] == revoked:
            raise EditError("grant")

    def put(self, edit):
        """Do an edit that fits."""
        kind = edit[0]
        if kind == "cell":
            self.put_cell(edit[1], edit[2], edit[3])
        elif kind == "rule":
            self.rules[edit[1]:edit[1] + 1] = [rule_copy(edit[2])]
        elif kind == "unrule":
            del self.rules[edit[1]]
        elif kind == "grant":
            self.grants.append(grant_copy(edit[1]))
        else:
            area, functions, to, by, _ = self.grants[edit[1]]
            self.grants[edit[1]] = (area, functions, to, by, edit[2])

    def put_cell(self, address, text, user):
        """Give an address an entry and its author, or make it blank."""
        if text == "":
            del self.entries[address]
            del self.authors[address]
        else:
            self.entries[address] = text
            self.authors[address] = user
