"""Addresses and ranges of the sheet."""

from labelgrid.numbers import all_digits

LETTERS = "ABCDEFGHIJKLMNOPQRSTUVWXYZ"
ROWS = 99
SHEET = ((0, 0), (25, 98))


def show_address(address):
    """Return the text of an address."""
    return f"{LETTERS[address[0]]}{address[1] + 1}"


def show_range(area):
    """Return the text of a range."""
    return f"{show_address(area[0])}:{show_address(area[1])}"


def parse_address(text):
    """Return the address of a text, or None."""
    letter = text[:1]
    digits = text[1:]
    if letter == "" or letter not in LETTERS:
        return None
    if not 1 <= len(digits) <= len(str(ROWS)) or not all_digits(digits) or digits[0] == "0":
        return None
    return (LETTERS.index(letter), int(digits) - 1)


def range_between(first, last):
    """Return the range of two addresses, or None if they are not its first and its last one."""
    if first[0] <= last[0] and first[1] <= last[1]:
        return (first, last)
    return None


def parse_range(text):
    """Return the range of a text, or None."""
    before, _, behind = text.partition(":")
    first = parse_address(before)
    last = parse_address(behind)
    if first is None or last is None:
        return None
    return range_between(first, last)


def place_key(address):
    """Return the pair of the row and the column, by which addresses are ordered row by row."""
    return (address[1], address[0])


def inside(address, area):
    """Return whether a range has an address."""
    first, last = area
    return first[0] <= address[0] <= last[0] and first[1] <= address[1] <= last[1]


def cells_of(area):
    """Return the list of the addresses of a range, row by row."""
    (left, top), (right, bottom) = area
    return [(column, row) for row in range(top, bottom + 1) for column in range(left, right + 1)]


def size_of(area):
    """Return the number of the addresses of a range."""
    (left, top), (right, bottom) = area
    return (right - left + 1) * (bottom - top + 1)


def common(area, other):
    """Return the range of the addresses that two ranges have, or None."""
    first = (max(area[0][0], other[0][0]), max(area[0][1], other[0][1]))
    last = (min(area[1][0], other[1][0]), min(area[1][1], other[1][1]))
    return range_between(first, last)


def without(area, other):
    """Return the ranges that are left of a range: above, below, to the left and to the right."""
    shared = common(area, other)
    if shared is None:
        return [area]
    (left, top), (right, bottom) = area
    (near, high), (far, low) = shared
    parts = [
        ((left, top), (right, high - 1)),
        ((left, low + 1), (right, bottom)),
        ((left, high), (near - 1, low)),
        ((far + 1, high), (right, low)),
    ]
    return [part for part in parts if range_between(part[0], part[1]) is not None]


def without_all(area, others):
    """Return the ranges that are left of a range without several ones, one after the other."""
    parts = [area]
    for other in others:
        parts = [left for part in parts for left in without(part, other)]
    return parts


def disjoint(areas):
    """Return the ranges, each one without all that stand before it."""
    parts = []
    for index, area in enumerate(areas):
        parts.extend(without_all(area, areas[:index]))
    return parts


def covered(area, areas):
    """Return whether each address of a range is in one of several ranges."""
    return without_all(area, areas) == []


def count_of(areas):
    """Return the number of the addresses that are in at least one of several ranges."""
    return len({address for area in areas for address in cells_of(area)})
