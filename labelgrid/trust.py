"""Endorsements: users who vouch for values, and whose entries addresses rest on besides."""

from labelgrid.cellsets import bit_of, cells_in, has_cell, mask_of_cells
from labelgrid.denoting import CYCLE, denote
from labelgrid.lookups import Lookup
from labelgrid.paths import first_path, spread
from labelgrid.rights import may


def holds(rules, values, endorsement):
    """Return whether an endorsement holds by some rules and for a dict of values."""
    _, address, value, user = endorsement
    return value != CYCLE and values.get(address) == value and may(rules, user, "own", address)


def endorsers(rules, values, endorsements):
    """Return a dict from the endorsed addresses to the lists of their endorsers, ascending."""
    users = {}
    for endorsement in endorsements:
        if holds(rules, values, endorsement):
            users.setdefault(endorsement[1], {})[endorsement[3]] = True
    return {address: sorted(users[address]) for address in users}


def own_users(book, vouchers, address):
    """Return the list of the users whom an address has among its trusted sources by itself.

    `vouchers` is a dict from the endorsed addresses to their endorsers.
    """
    if address in vouchers:
        return vouchers[address]
    return [book[3][address]] if address in book[2] else []


class Trusting:
    """A book with endorsements: the endorsers of addresses, and how addresses lead to others."""

    def __init__(self, book, endorsements):
        self._book = book
        self._lookup = Lookup(book[2])
        self._vouchers = endorsers(book[4], denote(book[2]), endorsements)
        self.endorsed = mask_of_cells(self._vouchers)
        # The formulas from which ways go on.
        self._passed = self._lookup.formula_set() & ~self.endorsed

    def used_from(self, address):
        """Return the set of the addresses to which a way goes on from an address."""
        return self._lookup.used_set(address) if has_cell(self._passed, address) else 0

    def set_below(self, address):
        """Return the set of the addresses to which an address leads."""
        return spread(bit_of(address), self._passed, lambda cell: self.used_from(cell))

    def users_at(self, address):
        """Return the list of the users whom an address has among its trusted sources by itself."""
        return own_users(self._book, self._vouchers, address)

    def way_to(self, address, user):
        """Return the first one of the shortest trust ways to a user, or None."""
        places = list(self._book[2]) + list(self._vouchers)
        goal = mask_of_cells([place for place in places if user in self.users_at(place)])
        return first_path(bit_of(address), goal, self._passed, lambda cell: self.used_from(cell))


def resting_on(book, endorsements, address):
    """Return the pair of the addresses of the entries and the endorsed addresses on which an address rests."""
    trusting = Trusting(book, endorsements)
    below = trusting.set_below(address)
    entries = [cell for cell in cells_in(below & ~trusting.endorsed) if cell in book[2]]
    return entries, cells_in(below & trusting.endorsed)


def trusted_sources(book, endorsements, address):
    """Return the list of the trusted sources of an address, ascending."""
    trusting = Trusting(book, endorsements)
    users = {user: True for cell in cells_in(trusting.set_below(address)) for user in trusting.users_at(cell)}
    return sorted(users)


def trust_way(book, endorsements, address, user):
    """Return a trust way from an address to a user with as few addresses as possible, or None."""
    return Trusting(book, endorsements).way_to(address, user)


def trust_way_right(book, endorsements, address, user, way):
    """Return whether a list of addresses is a trust way from an address to a user."""
    if not way or way[0] != address:
        return False
    trusting = Trusting(book, endorsements)
    if not all([has_cell(trusting.used_from(here), there) for here, there in zip(way, way[1:])]):
        return False
    return user in trusting.users_at(way[-1])
