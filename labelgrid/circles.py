"""Circles of formula cells, and the order in which the others are worked out."""

from labelgrid.addresses import place_key
from labelgrid.cellsets import bit_of, cells_in, first_in, last_in, mask_of_cells
from labelgrid.paths import first_path


class Search:
    """A search through a graph for the cells that reach each other, along one way at a time."""

    def __init__(self, graph):
        self.graph = graph
        self.unseen = graph.formula_set()
        # The way from where the search began, and the sets of its cells, with some behind them, that reach each
        # other. Each set has the cell of the way with which it began, its head.
        self.way = []
        self.knots = []
        self.heads = []
        # The set of all cells in knots, and the lists of those that are done with.
        self.held = 0
        self.found = []

    def run(self):
        """Go through the graph and return the lists."""
        while self.unseen != 0:
            self.enter(first_in(self.unseen))
            while self.way:
                uses = self.graph.used_cells(self.way[-1])
                self.tie(uses & self.held)
                ahead = uses & self.unseen
                if ahead != 0:
                    self.enter(first_in(ahead))
                else:
                    self.leave()
        return self.found

    def enter(self, cell):
        """Go on to a cell."""
        bit = bit_of(cell)
        self.unseen = self.unseen ^ bit
        self.held = self.held | bit
        self.way.append(cell)
        self.knots.append(bit)
        self.heads.append(cell)

    def tie(self, back):
        """Join the last knots to one that has all cells of a set, which the last cell of the way uses."""
        while back & ~self.knots[-1] != 0:
            last = self.knots.pop()
            self.heads.pop()
            self.knots[-1] = self.knots[-1] | last

    def leave(self):
        """Go back from the last cell of the way; a knot whose head it is has all that reach each other."""
        cell = self.way.pop()
        if cell == self.heads[-1]:
            self.heads.pop()
            knot = self.knots.pop()
            self.held = self.held ^ knot
            self.found.append(cells_in(knot))


def components(graph):
    """Return the list of the lists of formula cells that reach each other, and of single ones."""
    search = Search(graph)
    return sorted(search.run(), key=lambda cells: place_key(cells[0]))


class Agenda:
    """Cells that are to be done, each one behind those that it needs."""

    def __init__(self, missing):
        # The set of the cells that are not done, and that of those of them that may be done.
        self.missing = missing
        self.ready = 0
        # For a cell the pairs of a set of cells that are needed and the set of those that need them; all that
        # need the same are one set, so great ranges take no longer than small ones.
        self.waiting = {}

    def add_group(self, needed, group):
        """Let a set of cells wait until all cells of another set are done."""
        needed = needed & self.missing
        if needed == 0:
            self.ready = self.ready | group
        else:
            self.waiting.setdefault(last_in(needed), []).append((needed, group))

    def take(self):
        """Do the first cell row by row that may be done, and return it."""
        cell = first_in(self.ready)
        self.ready = self.ready ^ bit_of(cell)
        self.missing = self.missing ^ bit_of(cell)
        pairs = self.waiting.pop(cell, [])
        for needed, group in pairs:
            self.add_group(needed, group)
        return cell


def sorted_out(graph, cells, never):
    """Return the pair of the formula cells in the order of work, and of those of them for which there is none.

    There is none for cells that use themselves, one of a list of others that are never done, or such cells.
    """
    blocked = mask_of_cells(never)
    agenda = Agenda(mask_of_cells(cells) | blocked)
    groups = {}
    for cell in cells:
        needed = graph.used_cells(cell) & agenda.missing
        groups[needed] = groups.get(needed, 0) | bit_of(cell)
    for needed in groups:
        agenda.add_group(needed, groups[needed])
    order = []
    while agenda.ready != 0:
        order.append(agenda.take())
    return order, cells_in(agenda.missing & ~blocked)


def circular(graph):
    """Return the list of the circular formula cells, row by row."""
    _, stuck = sorted_out(graph, graph.formulas(), [])
    return stuck


def work_order(graph, cells):
    """Return different formula cells that are not circular in the order of work."""
    order, _ = sorted_out(graph, cells, [])
    return order


def circle_of(graph, address):
    """Return a circle through a formula cell with as few cells as possible, beginning with it, or None."""
    used = graph.used_cells(address)
    path = first_path(used, bit_of(address), graph.formula_set(), lambda cell: graph.used_cells(cell))
    return None if path is None else [address] + path[:-1]


def circle_right(graph, circle):
    """Return whether a list of addresses is a circle."""
    if not circle or len(set(circle)) < len(circle):
        return False
    # What uses the next one is a formula cell.
    return all([graph.uses(circle[at - 1], address) for at, address in enumerate(circle)])
