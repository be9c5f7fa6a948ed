"""Labels: who sees which address."""

from labelgrid.cellsets import cells_in, has_cell
from labelgrid.graph import Graph
from labelgrid.hiding import Hiding


def hidden_uses(book, user, address):
    """Return the list of the ranges that the formula of an address uses, but for calls released to a user."""
    return Hiding(book).hidden_ranges(user, address)


def graph_for(book, user):
    """Return the graph of the uses that are not released to a user."""
    return _graph_of(Hiding(book), user)


def _graph_of(hiding, user):
    """Return the graph of the uses that are not released to a user."""
    graph = Graph()
    for address in cells_in(hiding.formula_set()):
        graph.put(address, hiding.hidden_ranges(user, address))
    return graph


def _hidden_of(hiding, graph, user):
    """Return the set of the addresses that are hidden from a user."""
    closed = hiding.closed_set(user)
    return closed | graph.reaching_set(closed)


def hidden_cells(book, user):
    """Return a dict with the formula cells that are hidden from a user as keys, and True."""
    hiding = Hiding(book)
    hidden = _hidden_of(hiding, _graph_of(hiding, user), user)
    return {address: True for address in cells_in(hidden & hiding.formula_set())}


def _sees(hiding, user, address):
    """Return whether a user may read an address and all that it reaches by uses not released to the user."""
    return hiding.set_below(user, address) & hiding.closed_set(user) == 0


def sees(book, user, address):
    """Return whether a user sees an address."""
    return _sees(Hiding(book), user, address)


def label_of(book, address):
    """Return the label of an address, the list of the users who see it."""
    hiding = Hiding(book)
    return [user for user in range(book[1]) if _sees(hiding, user, address)]


def labels(book):
    """Return a dict from the addresses with entries to their labels."""
    flow = Flow(book)
    return {address: flow.label(address) for address in book[2]}


class Flow:
    """A book and its labels."""

    def __init__(self, book):
        self.book = book
        self._hiding = Hiding(book)
        # For the users who were asked for: the graph, and the set of the addresses that are hidden in this book.
        self._graphs = {}
        self._hidden = {}

    def unseen_set(self, user):
        """Return the set of the addresses that are hidden from a user."""
        if user not in self._graphs:
            self._graphs[user] = _graph_of(self._hiding, user)
        if user not in self._hidden:
            self._hidden[user] = _hidden_of(self._hiding, self._graphs[user], user)
        return self._hidden[user]

    def sees(self, user, address):
        """Return whether a user sees an address."""
        return not has_cell(self.unseen_set(user), address)

    def label(self, address):
        """Return the label of an address."""
        return [user for user in range(self.book[1]) if self.sees(user, address)]

    def enter(self, book, addresses):
        """Go on with a book that differs from the last one only in the entries and authors of some addresses."""
        self.book = book
        self._hiding.enter(book, addresses)
        self._hidden = {}
        for user in list(self._graphs):
            for address in addresses:
                self._renew_cell(user, address)

    def turn_rules(self, book, areas):
        """Go on with a book that differs from the last one only in grants and in rules for some ranges."""
        self.book = book
        self._hiding.turn_rules(book, areas)
        self._hidden = {}
        # Other calls may be released now.
        self._graphs = {}

    def _renew_cell(self, user, address):
        """Put into the graph for a user what an address uses now."""
        if has_cell(self._hiding.formula_set(), address):
            self._graphs[user].put(address, self._hiding.hidden_ranges(user, address))
        else:
            self._graphs[user].remove(address)
