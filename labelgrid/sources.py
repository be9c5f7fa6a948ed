"""Sources: the authors of the entries on which addresses rest."""

from labelgrid.addresses import place_key
from labelgrid.cellsets import bit_of, cells_in
from labelgrid.denoting import graph_of
from labelgrid.lookups import Lookup
from labelgrid.paths import spread


def addresses_below(entries, address):
    """Return the list of the addresses of the entries on which an address rests, row by row."""
    lookup = Lookup(entries)
    found = spread(bit_of(address), lookup.formula_set(), lambda cell: lookup.used_set(cell))
    return [cell for cell in cells_in(found) if cell in entries]


def sources_of(book, address):
    """Return the sources of an address, ascending."""
    authors = {book[3][cell]: True for cell in addresses_below(book[2], address)}
    return sorted(authors)


def borne_by(book, user):
    """Return the list of the addresses with entries that rest on an entry of a user, row by row."""
    own = [address for address in book[2] if book[3][address] == user]
    reaching = graph_of(book[2]).reaching([(address, address) for address in own])
    found = {address: True for address in own + reaching}
    return sorted(found, key=place_key)
