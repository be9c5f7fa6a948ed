"""Merging two books that come from one."""

from labelgrid.copies import grant_copy, rule_copy
from labelgrid.edits import addresses_in, changed_cells, entry_of


def touched(base, book):
    """Return the list of the things that a book that comes from another one touches."""
    things = [("cell", address) for address in changed_cells(base, book)]
    if base[4] != book[4]:
        things.append(("rules", None))
    for index, grant in enumerate(book[5]):
        # The book does not have the further grants, so they are touched, too.
        if index >= len(base[5]) or base[5][index][4] != grant[4]:
            things.append(("grant", index))
    return things


def merged(base, one, other):
    """Return the pair of the merged book and an empty list, or of None and the things with conflicts."""
    addresses = addresses_in([base, one, other])
    conflicts = [("cell", address) for address in addresses if _entries_conflict(base, one, other, address)]
    if _conflict(base[4], one[4], other[4]):
        conflicts.append(("rules", None))
    if conflicts:
        return None, conflicts
    entries = {}
    authors = {}
    for address in addresses:
        text, author = _taken(entry_of(base, address), entry_of(one, address), entry_of(other, address))
        if text != "":
            entries[address] = text
            authors[address] = author
    rules = [rule_copy(rule) for rule in _taken(base[4], one[4], other[4])]
    return ("book", base[1], entries, authors, rules, _merged_grants(base[5], one[5], other[5])), []


def _conflict(base, one, other):
    """Return whether both have changed what was there, and differently."""
    return base != one and base != other and one != other


def _entries_conflict(base, one, other, address):
    """Return whether the entries of an address conflict."""
    return _conflict(entry_of(base, address), entry_of(one, address), entry_of(other, address))


def _taken(base, one, other):
    """Return what stands of two changes without a conflict."""
    return other if one == base else one


def _merged_grants(grants, ones, others):
    made = []
    for index, grant in enumerate(grants):
        area, functions, to, by, revoked = grant_copy(grant)
        made.append((area, functions, to, by, _taken(revoked, ones[index][4], others[index][4])))
    further = ones[len(grants):] + others[len(grants):]
    if len(ones) > len(grants) and len(others) > len(grants):
        further = sorted(further)
    return made + [grant_copy(grant) for grant in further]
