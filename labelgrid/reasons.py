"""Reasons why users see addresses, or do not."""

from labelgrid.addresses import inside
from labelgrid.cellsets import bit_of, cells_in, has_cell, mask_of_cells
from labelgrid.hiding import Hiding
from labelgrid.paths import first_path


def hidden_way(book, user, address):
    """Return the shortest way that hides an address from a user, or None."""
    hiding = Hiding(book)
    closed = hiding.closed_set(user)
    return first_path(bit_of(address), closed, hiding.formula_set(), lambda cell: hiding.hidden_set(user, cell))


def way_right(book, user, address, way):
    """Return whether a list of addresses is a way that hides an address from a user."""
    if not way or way[0] != address:
        return False
    hiding = Hiding(book)
    for here, there in zip(way, way[1:]):
        if not any([inside(there, area) for area in hiding.hidden_ranges(user, here)]):
            return False
    return has_cell(hiding.closed_set(user), way[-1])


def open_cells(book, user, address):
    """Return an open list for an address and a user, row by row, or None."""
    hiding = Hiding(book)
    below = hiding.set_below(user, address)
    if below & hiding.closed_set(user) != 0:
        return None
    return cells_in(below & hiding.formula_set())


def open_right(book, user, address, cells):
    """Return whether a list of addresses is an open list for an address and a user."""
    hiding = Hiding(book)
    closed = hiding.closed_set(user)
    formulas = hiding.formula_set()
    listed = mask_of_cells(cells)
    if len(set(cells)) < len(cells) or listed & ~formulas != 0:
        return False
    if (listed | bit_of(address)) & closed != 0 or bit_of(address) & formulas & ~listed != 0:
        return False
    # What each of them uses may be read, and the formula cells among that are listed, too.
    barred = closed | (formulas & ~listed)
    return all([hiding.hidden_set(user, cell) & barred == 0 for cell in cells])


def blocking(book, user, address):
    """Return the list of the addresses that block an address for a user, row by row."""
    hiding = Hiding(book)
    return cells_in(hiding.set_below(user, address) & hiding.closed_set(user))
