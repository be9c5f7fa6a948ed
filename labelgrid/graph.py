"""The graph of what formula cells use."""

from labelgrid.addresses import SHEET, inside
from labelgrid.cellsets import bit_of, cells_in, first_in, mask_of, mask_of_all
from labelgrid.paths import spread


class Graph:
    """Formula cells and the ranges that they use."""

    def __init__(self):
        self.ranges = {}
        # The same as sets of addresses, and the set of the formula cells.
        self._uses = {}
        self._cells = 0
        # For each column and each row the set of the formula cells that use an address in it: so those that use
        # an address are found without going through all of them.
        self._by_column = [0] * (SHEET[1][0] + 1)
        self._by_row = [0] * (SHEET[1][1] + 1)

    def put(self, address, ranges):
        """Make an address a formula cell that uses some ranges, instead of what it used before."""
        self.remove(address)
        bit = bit_of(address)
        self.ranges[address] = list(ranges)
        self._uses[address] = mask_of_all(ranges)
        self._cells = self._cells | bit
        for (left, top), (right, bottom) in ranges:
            for column in range(left, right + 1):
                self._by_column[column] = self._by_column[column] | bit
            for row in range(top, bottom + 1):
                self._by_row[row] = self._by_row[row] | bit

    def remove(self, address):
        """Make an address no formula cell, if it is one."""
        if address not in self.ranges:
            return
        others = ~bit_of(address)
        del self.ranges[address]
        del self._uses[address]
        self._cells = self._cells & others
        self._by_column = [users & others for users in self._by_column]
        self._by_row = [users & others for users in self._by_row]

    def formulas(self):
        """Return the list of the formula cells."""
        return cells_in(self._cells)

    def uses(self, address, other):
        """Return whether an address is a formula cell that uses another address."""
        return any([inside(other, area) for area in self.ranges.get(address, [])])

    def users_of(self, area):
        """Return the list of the formula cells that use an address of a range."""
        return cells_in(self._users_of(area, self._cells))

    def used_formulas(self, address):
        """Return the list of the formula cells that an address uses."""
        return cells_in(self.used_cells(address) & self._cells)

    def reaching(self, areas):
        """Return the list of the formula cells that reach an address of one of some ranges."""
        found = 0
        for area in areas:
            found = found | self._users_of(area, self._cells & ~found)
        return cells_in(self.with_reaching(found, self._cells))

    def reached(self, address):
        """Return the list of the formula cells that an address reaches."""
        found = spread(self.used_cells(address), self._cells, lambda cell: self.used_cells(cell))
        return cells_in(found & self._cells)

    def used_cells(self, address):
        """Return the set of the addresses that an address uses, which is empty if it is no formula cell."""
        return self._uses.get(address, 0)

    def formula_set(self):
        """Return the set of the formula cells."""
        return self._cells

    def reaching_set(self, cells):
        """Return the set of the formula cells that reach an address of a set."""
        found = 0
        for address in self._uses:
            if self._uses[address] & cells != 0:
                found = found | bit_of(address)
        return self.with_reaching(found, self._cells)

    def with_reaching(self, found, within):
        """Return a set of addresses with all formula cells of another set that reach one of them through it."""
        waiting = found
        while waiting != 0:
            cell = first_in(waiting)
            further = self._users_of((cell, cell), within & ~found)
            found = found | further
            waiting = (waiting ^ bit_of(cell)) | further
        return found

    def _users_of(self, area, among):
        """Return the set of those formula cells of a set that use an address of a range."""
        (left, top), (right, bottom) = area
        in_columns = 0
        for users in self._by_column[left:right + 1]:
            in_columns = in_columns | users
        in_rows = 0
        for users in self._by_row[top:bottom + 1]:
            in_rows = in_rows | users
        wanted = mask_of(area)
        found = 0
        # A formula with several ranges may use the columns and the rows, but no address of this range.
        for address in cells_in(in_columns & in_rows & among):
            if self._uses[address] & wanted != 0:
                found = found | bit_of(address)
        return found
