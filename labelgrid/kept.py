"""Sources and trusted sources that are kept up."""

from labelgrid.calc import Calc
from labelgrid.cellsets import bit_of, cells_in, has_cell, mask_of_cells
from labelgrid.trust import endorsers, own_users


class Bearing:
    """For each user the set of the addresses that have this user among their sources."""

    def __init__(self, users):
        self._borne = [0] * users

    def users_of(self, address):
        """Return the list of the users of an address, ascending."""
        return [user for user, cells in enumerate(self._borne) if has_cell(cells, address)]

    def renew(self, again, own, graph, passing):
        """Look again at a set of addresses, which has all formulas that reach one of them.

        `own` has for each user the set of those of them that have this user by themselves. Those of them that are in
        the set `passing` have, too, the users of what their formulas use.
        """
        ahead = cells_in(passing & graph.formula_set())
        for user, cells in enumerate(list(self._borne)):
            others = cells & ~again
            using = mask_of_cells([cell for cell in ahead if graph.used_cells(cell) & others != 0])
            self._borne[user] = others | graph.with_reaching(own[user] | using, passing)


class Kept:
    """A book with endorsements, and the sources and trusted sources of its entries."""

    def __init__(self, book, endorsements):
        self.book = book
        self.endorsements = list(endorsements)
        self._calc = Calc(book[2])
        # The endorsed addresses and their endorsers.
        self._vouchers = {}
        self._bearing = Bearing(book[1])
        self._trusted = Bearing(book[1])
        self._look_at(list(book[2]) + [endorsement[1] for endorsement in endorsements])

    def sources(self, address):
        """Return the list of the sources of an address with an entry, ascending."""
        return self._bearing.users_of(address)

    def trusted_of(self, address):
        """Return the list of the trusted sources of an address with an entry, ascending."""
        return self._trusted.users_of(address)

    def enter(self, book, addresses):
        """Go on with a book that differs from the last one only in the entries and authors of some addresses."""
        self.book = book
        self._calc.put_all({address: book[2].get(address, "") for address in addresses})
        return self._look_at(addresses)

    def endorse(self, endorsements):
        """Go on with another list of endorsements."""
        before = {endorsement: True for endorsement in self.endorsements}
        behind = {endorsement: True for endorsement in endorsements}
        single = [endorsement for endorsement in before if endorsement not in behind]
        single.extend([endorsement for endorsement in behind if endorsement not in before])
        self.endorsements = list(endorsements)
        return self._look_at([endorsement[1] for endorsement in single])

    def _look_at(self, addresses):
        """Look again at some addresses and all that reach them, and return those with entries, row by row."""
        graph = self._calc.graph
        again = graph.with_reaching(mask_of_cells(addresses), graph.formula_set())
        self._renew_vouchers(again)
        cells = cells_in(again)
        self._bearing.renew(again, self._own_sets(cells, {}), graph, again)
        # What an endorsed address uses does not count for it.
        unendorsed = again & ~mask_of_cells(self._vouchers)
        self._trusted.renew(again, self._own_sets(cells, self._vouchers), graph, unendorsed)
        return [cell for cell in cells if cell in self.book[2]]

    def _renew_vouchers(self, again):
        """Find out for a set of addresses whose endorsements hold now."""
        for cell in cells_in(again):
            self._vouchers.pop(cell, None)
        doubtful = [endorsement for endorsement in self.endorsements if has_cell(again, endorsement[1])]
        self._vouchers.update(endorsers(self.book[4], self._calc.results, doubtful))

    def _own_sets(self, cells, vouchers):
        """Return for each user the set of those addresses of a list that have this user by themselves."""
        sets = [0] * self.book[1]
        for cell in cells:
            for user in own_users(self.book, vouchers, cell):
                sets[user] = sets[user] | bit_of(cell)
        return sets
