"""Sets of addresses as integers: the address of column c and row r is the bit 26 * r + c.

So thousands of addresses are joined and compared in one step, and the lowest bit is the first address row by row.
"""

COLUMNS = 26


def index_of(address):
    """Return the number of addresses that come before an address row by row."""
    return address[1] * COLUMNS + address[0]


def _address_at(index):
    return (index % COLUMNS, index // COLUMNS)


def bit_of(address):
    """Return the set of one address."""
    return 1 << index_of(address)


def has_cell(cells, address):
    """Return whether a set has an address."""
    return cells & bit_of(address) != 0


def mask_of(area):
    """Return the set of the addresses of a range."""
    (left, top), (right, bottom) = area
    in_row = (1 << (right - left + 1)) - 1
    # The quotient has the first bit of each row of so many.
    starts = ((1 << COLUMNS * (bottom - top + 1)) - 1) // ((1 << COLUMNS) - 1)
    return (starts * in_row) << index_of((left, top))


def mask_of_all(areas):
    """Return the set of the addresses of several ranges."""
    cells = 0
    for area in areas:
        cells = cells | mask_of(area)
    return cells


def mask_of_cells(addresses):
    """Return the set of the addresses of a list or of the keys of a dict."""
    cells = 0
    for address in addresses:
        cells = cells | bit_of(address)
    return cells


def first_in(cells):
    """Return the first address row by row of a set that is not empty."""
    return _address_at((cells & -cells).bit_length() - 1)


def last_in(cells):
    """Return the last address row by row of a set that is not empty."""
    return _address_at(cells.bit_length() - 1)


def cells_in(cells):
    """Return the list of the addresses of a set, row by row."""
    found = []
    while cells != 0:
        lowest = cells & -cells
        found.append(_address_at(lowest.bit_length() - 1))
        cells = cells ^ lowest
    return found
