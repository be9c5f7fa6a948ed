"""Witnesses: two entries at an address that a user may not read that give another address different values."""

from labelgrid.calc import Calc
from labelgrid.entries import is_entry
from labelgrid.reasons import blocking
from labelgrid.rights import may
from labelgrid.sources import addresses_below

CHOICES = ["0", "1", "ab", ""]


def value_with(book, address, cell, text):
    """Return the value of an address in the book that has a text as the entry of a cell."""
    calc = Calc(book[2])
    calc.put(cell, text)
    return calc.value(address)


def witness(book, user, address):
    """Return a witness for an address and a user, or None."""
    # The value depends on no other entries.
    calc = Calc({cell: book[2][cell] for cell in addresses_below(book[2], address)})
    for cell in blocking(book, user, address):
        found = _witness_at(calc, address, cell)
        if found is not None:
            return found
        calc.put(cell, book[2].get(cell, ""))
    return None


def _witness_at(calc, address, cell):
    """Return the witness with two of the choices at a cell, or None; leaves one of the choices there."""
    tried = []
    for text in CHOICES:
        calc.put(cell, text)
        tried.append((text, calc.value(address)))
        # All earlier ones have the same value, or one of them would have ended the search.
        if tried[-1][1] != tried[0][1]:
            return (cell, tried[0][0], text)
    return None


def witness_right(book, user, address, found):
    """Return whether a triple of an address and two texts is a witness for an address and a user."""
    cell, one, other = found
    if may(book[4], user, "read", cell) or not is_entry(one) or not is_entry(other):
        return False
    return value_with(book, address, cell, one) != value_with(book, address, cell, other)
