"""Inserting and deleting columns and rows."""

from labelgrid.addresses import SHEET, size_of
from labelgrid.copies import grant_copy, rule_copy
from labelgrid.entries import LONGEST_ENTRY, parse_entry
from labelgrid.errors import EditError
from labelgrid.trees import rebuilt, show_formula

KINDS = ("column", "row")


class Shift:
    """What an insertion (`grows` is True) or deletion of so many columns or rows does to addresses."""

    def __init__(self, grows, kind, at, count):
        self.grows = grows
        self._axis = KINDS.index(kind)
        self._at = at
        self._count = count

    def address(self, address):
        """Return what an address becomes, or None if it is taken away or leaves the sheet."""
        place = address[self._axis]
        if not self.grows and self._at <= place < self._at + self._count:
            return None
        place = self._moved(place)
        if place > self._end():
            return None
        return self._with_place(address, place)

    def area(self, area):
        """Return what a range becomes without what leaves the sheet, or None if nothing of it is left."""
        first = area[0][self._axis]
        last = area[1][self._axis]
        if self.grows:
            first = self._moved(first)
            last = min(self._moved(last), self._end())
        else:
            # What begins or ends among those taken away begins behind them, or ends in front of them.
            first = first if first < self._at else max(self._moved(first), self._at)
            last = last if last < self._at else max(self._moved(last), self._at - 1)
        if first > last:
            return None
        return (self._with_place(area[0], first), self._with_place(area[1], last))

    def tree(self, tree):
        """Return what a formula becomes."""
        return rebuilt(tree, lambda part: self._shifted_part(part))

    def leaves(self, area):
        """Return whether a part of a range would leave the sheet."""
        return self.grows and self._moved(area[1][self._axis]) > self._end()

    def _shifted_part(self, part):
        """Return what a reference or a range in a formula becomes."""
        kind, what = part
        if self.leaves((what, what) if kind == "ref" else what):
            raise EditError("sheet")
        goal = self.address(what) if kind == "ref" else self.area(what)
        return ("lost",) if goal is None else (kind, goal)

    def _moved(self, place):
        """Return where a column or row goes, perhaps beyond the sheet."""
        if place < self._at:
            return place
        return place + self._count if self.grows else place - self._count

    def _end(self):
        """Return the last column or row of the sheet."""
        return SHEET[1][self._axis]

    def _with_place(self, address, place):
        """Return an address with another column or row."""
        return (place, address[1]) if self._axis == 0 else (address[0], place)


def inserted(book, kind, at, count):
    """Return what a book becomes if so many columns or rows are inserted in front of one."""
    return _shifted(book, Shift(True, kind, at, count))


def deleted(book, kind, at, count):
    """Return what a book becomes if so many columns or rows are deleted from one on."""
    return _shifted(book, Shift(False, kind, at, count))


def _shifted(book, shift):
    """Return what a book becomes."""
    entries = {}
    authors = {}
    for address in book[2]:
        goal = shift.address(address)
        if goal is not None:
            entries[goal] = _shifted_entry(book[2][address], shift)
            authors[goal] = book[3][address]
        elif shift.grows:
            raise EditError("sheet")
    return ("book", book[1], entries, authors, _shifted_rules(book[4], shift), _shifted_grants(book[5], shift))


def _shifted_entry(text, shift):
    """Return what an entry becomes."""
    kind, what = parse_entry(text)
    if kind == "value":
        return text
    tree = shift.tree(what)
    if tree == what:
        return text
    made = f"={show_formula(tree)}"
    if len(made) > LONGEST_ENTRY:
        raise EditError("text")
    return made


def _shifted_rules(rules, shift):
    """Return what rules become; the first one is for the whole sheet and stays."""
    made = [rule_copy(rules[0])]
    for rule in rules[1:]:
        area = shift.area(rule[0])
        if area is not None:
            _, read, write, own = rule_copy(rule)
            made.append((area, read, write, own))
    return made


def _shifted_grants(grants, shift):
    """Return what grants become."""
    made = []
    for grant in grants:
        if shift.leaves(grant[0]):
            raise EditError("sheet")
        area = shift.area(grant[0])
        if area is not None:
            before, functions, to, by, revoked = grant_copy(grant)
            made.append((area, functions, to, by, revoked or _loses(shift, before, area)))
    return made


def _loses(shift, before, behind):
    """Return whether a deletion takes a part of a range away."""
    return not shift.grows and size_of(behind) < size_of(before)
