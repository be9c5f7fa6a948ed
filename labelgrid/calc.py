"""Values that are kept up change by change."""

from labelgrid.addresses import inside
from labelgrid.cellsets import cells_in, mask_of_cells
from labelgrid.circles import sorted_out
from labelgrid.denoting import CYCLE, keep_value
from labelgrid.entries import parse_entry
from labelgrid.evaluating import evaluate
from labelgrid.graph import Graph
from labelgrid.uses import used_ranges


class Calc:
    """Entries and the values of all addresses."""

    def __init__(self, entries):
        self.entries = {}
        self.results = {}
        self.graph = Graph()
        self._trees = {}
        self._circular = {}
        self.work = 0
        self.put_all(entries)
        # Only what changes from now on counts as work.
        self.work = 0

    def put_all(self, texts):
        """Change entries, and return the list of the formula cells that were evaluated, in order."""
        # All are read before anything changes, since one of them may be no entry.
        parsed = {address: parse_entry(texts[address]) for address in texts}
        for address in parsed:
            self._enter(address, texts[address], parsed[address])
        return self._renew(list(parsed))

    def put(self, address, text):
        """Change one entry, and return the list of the formula cells that were evaluated, in order."""
        return self.put_all({address: text})

    def clear(self, area):
        """Remove all entries of a range, and return the list of the formula cells that were evaluated, in order."""
        return self.put_all({address: "" for address in self.entries if inside(address, area)})

    def value(self, address):
        """Return the value of an address."""
        return self.results.get(address)

    def is_circular(self, address):
        """Return whether an address has a circular formula."""
        return address in self._circular

    def _enter(self, address, text, parsed):
        """Give an address an entry that was read, and the value that it has if it is no formula."""
        self.graph.remove(address)
        self._trees.pop(address, None)
        keep_value(self.results, address, None)
        if parsed is None:
            self.entries.pop(address, None)
            return
        self.entries[address] = text
        kind, what = parsed
        if kind == "formula":
            self._trees[address] = what
            self.graph.put(address, used_ranges(what))
        else:
            keep_value(self.results, address, what)

    def _renew(self, addresses):
        """Evaluate the formula cells for which changes count, and return those that are not circular."""
        changed = mask_of_cells(addresses)
        reaching = mask_of_cells(self.graph.reaching([(address, address) for address in addresses]))
        doubtful = reaching | (changed & self.graph.formula_set())
        # Whoever comes into a circle, or leaves one, reaches a changed address, so all others stay as they are.
        kept = cells_in(mask_of_cells(self._circular) & ~(changed | doubtful))
        order, stuck = sorted_out(self.graph, cells_in(doubtful), kept)
        self._circular = {address: True for address in kept + stuck}
        for address in stuck:
            self.results[address] = CYCLE
        for address in order:
            keep_value(self.results, address, evaluate(self._trees[address], self.results))
        self.work = self.work + len(order)
        return order
