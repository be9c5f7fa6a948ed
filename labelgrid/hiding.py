"""What hides addresses from users: the uses that are not released to them, and what they may not read."""

from labelgrid.cellsets import bit_of, mask_of_all
from labelgrid.grants import released_to
from labelgrid.lookups import Lookup
from labelgrid.paths import spread
from labelgrid.rights import refused_set


class Hiding:
    """A book, and what was looked up in it so far."""

    def __init__(self, book):
        self._book = book
        self._lookup = Lookup(book[2])
        self._released = {}
        self._closed = {}

    def enter(self, book, addresses):
        """Go on with a book that differs from the last one only in the entries and authors of some addresses."""
        self._book = book
        self._lookup.change(book[2], addresses)

    def turn_rules(self, book, areas):
        """Go on with a book that differs from the last one only in grants and in rules for some ranges."""
        self._book = book
        self._released = {}
        if areas:
            self._closed = {}

    def formula_set(self):
        """Return the set of the formula cells."""
        return self._lookup.formula_set()

    def closed_set(self, user):
        """Return the set of the addresses that a user may not read."""
        if user not in self._closed:
            self._closed[user] = refused_set(self._book[4], user, "read")
        return self._closed[user]

    def hidden_pairs(self, user, address):
        """Return the list of the pairs of the range and the node of the uses that are not released to a user."""
        uses = self._lookup.uses_at(address)
        return [(area, node) for area, node, function in uses if not self._is_released(user, function, area)]

    def released_at(self, user, address):
        """Return the list of the triples (node, function, range) of the calls that are released to a user."""
        uses = self._lookup.uses_at(address)
        return [(node, function, area) for area, node, function in uses if self._is_released(user, function, area)]

    def hidden_ranges(self, user, address):
        """Return the list of the ranges of the uses that are not released to a user."""
        return [area for area, _ in self.hidden_pairs(user, address)]

    def hidden_set(self, user, address):
        """Return the set of the addresses of these ranges."""
        return mask_of_all(self.hidden_ranges(user, address))

    def set_below(self, user, address):
        """Return the set of an address and all that it reaches by uses that are not released to a user."""
        return spread(bit_of(address), self.formula_set(), lambda cell: self.hidden_set(user, cell))

    def _is_released(self, user, function, area):
        """Return whether a use is released to a user; one by itself, without a function, is not."""
        if function is None:
            return False
        if (function, area) not in self._released:
            self._released[(function, area)] = released_to(self._book[4], self._book[5], function, area)
        return user in self._released[(function, area)]
