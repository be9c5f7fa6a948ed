"""Names of ranges in formulas that users type."""

from labelgrid.addresses import show_address, show_range
from labelgrid.errors import EntryError
from labelgrid.words import tokens_of

SMALL = "abcdefghijklmnopqrstuvwxyz"
LONGEST_WORD = 12


def resolved(text, names):
    """Return an entry with the ranges in the places of their names."""
    if text[:1] != "=":
        return text
    pieces = []
    at = 0
    while at < len(text):
        end = _piece_end(text, at)
        piece = text[at:end]
        if piece[0] in SMALL:
            if piece not in names:
                raise EntryError(at)
            piece = _short_text(names[piece])
        pieces.append(piece)
        at = end
    return "".join(pieces)


def _piece_end(text, at):
    """Return the index behind the text in quotes, the run of letters and points, or the character at an index."""
    if text[at] == '"':
        # A quote that is written twice ends one piece and begins another one, which is in quotes, too.
        end = text.find('"', at + 1)
        return len(text) if end < 0 else end + 1
    end = at + 1
    if text[at] in SMALL:
        while end < len(text) and (text[end] in SMALL or text[end] == "."):
            end = end + 1
    return end


def _short_text(area):
    """Return the text of a range, or that of its address if it has one alone."""
    return show_address(area[0]) if area[0] == area[1] else show_range(area)


def named(text, names):
    """Return an entry with a formula with names in the places of the ranges that have some."""
    if text[:1] != "=":
        return text
    first_names = {}
    for name in sorted(names):
        first_names.setdefault(names[name], name)
    pieces = []
    done = 0
    for area, at in _written_areas(text):
        if area in first_names:
            pieces.append(text[done:at] + first_names[area])
            done = at + len(_short_text(area))
    return "".join(pieces) + text[done:]


def _written_areas(text):
    """Return the pairs of a range and its index, for those in a formula in whose places names may stand."""
    found = []
    first = None
    tokens = tokens_of(text, 1)
    for index, (kind, what, at) in enumerate(tokens):
        if kind != "ref":
            continue
        if first is None and _is_colon(tokens[index + 1:index + 2]):
            first = (what, at)
        elif first is None:
            found.append(((what, what), at))
        else:
            area = (first[0], what)
            # A range that is written with spaces, or that has one address, stays.
            if text.startswith(_short_text(area), first[1]) and first[0] != what:
                found.append((area, first[1]))
            first = None
    return found


def _is_colon(tokens):
    """Return whether a list has one token, the colon in a range."""
    return len(tokens) == 1 and tokens[0][0] == "sign" and tokens[0][1] == ":"


def _is_word(text):
    """Return whether a text is one word of a name."""
    return 1 <= len(text) <= LONGEST_WORD and all([letter in SMALL for letter in text])


def table_names(name, area, values):
    """Return the dict of the names of the columns of a table."""
    (left, top), (right, bottom) = area
    names = {}
    if top == bottom:
        return names
    for column in range(left, right + 1):
        heading = values.get((column, top))
        if heading is not None and heading[0] == "text" and _is_word(heading[1]):
            # Of equal headings the first one counts.
            names.setdefault(f"{name}.{heading[1]}", ((column, top + 1), (column, bottom)))
    return names


def moved_names(names, shift):
    """Return the names behind an insertion or deletion; names of ranges that are gone are gone, too."""
    areas = {name: shift.area(names[name]) for name in names}
    return {name: areas[name] for name in areas if areas[name] is not None}
