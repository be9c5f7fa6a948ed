"""The uses of the formulas among entries, each formula read when it is first asked for."""

from labelgrid.cellsets import mask_of_all, mask_of_cells
from labelgrid.uses import is_formula, uses_in_entry


class Lookup:
    """Entries, and the uses of those that were asked for."""

    def __init__(self, entries):
        self._entries = entries
        self._known = {}
        self._formulas = self._formulas_at(entries)

    def formula_set(self):
        """Return the set of the formula cells."""
        return self._formulas

    def uses_at(self, address):
        """Return the triples of the range, the node and the function of all uses in the formula of an address."""
        if address not in self._known:
            self._known[address] = uses_in_entry(self._entries.get(address, ""))
        return self._known[address]

    def used_set(self, address):
        """Return the set of the addresses that the formula of an address uses."""
        return mask_of_all([area for area, _, _ in self.uses_at(address)])

    def change(self, entries, addresses):
        """Go on with entries that differ from the last ones only at some addresses."""
        self._entries = entries
        for address in addresses:
            self._known.pop(address, None)
        self._formulas = (self._formulas & ~mask_of_cells(addresses)) | self._formulas_at(addresses)

    def _formulas_at(self, addresses):
        """Return the set of those addresses that have formulas."""
        return mask_of_cells([address for address in addresses if is_formula(self._entries.get(address, ""))])
