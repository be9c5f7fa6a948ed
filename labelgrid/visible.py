"""What a user sees of addresses, and of the work behind changes."""

from labelgrid.cellsets import bit_of, cells_in
from labelgrid.denoting import denote, graph_of
from labelgrid.flow import Flow, sees

DENIED = ("denied",)


def seen_value(book, user, address):
    """Return what a user sees of an address: its value, or DENIED."""
    return denote(book[2]).get(address) if sees(book, user, address) else DENIED


def work_set(graph, hidden, address, is_blank):
    """Return the set of the cells whose work is seen, when an address was set.

    The graph has the formulas behind this, `hidden` is the set of the addresses that are hidden before or behind it,
    and `is_blank` tells whether the address is blank behind it.
    """
    seen = graph.with_reaching(bit_of(address), ~hidden) & ~hidden
    return seen & ~bit_of(address) if is_blank else seen


def seen_work(before, after, user, address):
    """Return the list of the cells whose work a user sees, for two books that differ in an address, row by row."""
    hidden = Flow(before).unseen_set(user) | Flow(after).unseen_set(user)
    return cells_in(work_set(graph_of(after[2]), hidden, address, address not in after[2]))
