"""Books and their edits."""

from labelgrid.addresses import SHEET, place_key
from labelgrid.copies import grant_copy, rule_copy
from labelgrid.drafts import Draft


def empty_book(users):
    """Return the book without entries and grants, in which all users may do everything."""
    everybody = list(range(users))
    rule = (SHEET, list(everybody), list(everybody), list(everybody))
    return ("book", users, {}, {}, [rule], [])


def entry_of(book, address):
    """Return the pair of the entry of an address and its author."""
    return (book[2].get(address, ""), book[3].get(address))


def apply_edit(book, edit):
    """Return the book after an edit."""
    return apply_edits(book, [edit])


def apply_edits(book, edits):
    """Return the book after the edits of a list, one after the other."""
    draft = Draft(book)
    for edit in edits:
        draft.check(edit)
        draft.put(edit)
    return draft.made()


def cell_edit(book, address):
    """Return the edit that gives an address the entry and the author that it has in a book."""
    text, user = entry_of(book, address)
    return ("cell", address, text, user)


def back_from(book, edit):
    """Return the list of the edits that lead back from an edit that fits the book."""
    kind = edit[0]
    if kind == "cell":
        return [cell_edit(book, edit[1])]
    if kind == "grant":
        return [("revoke", len(book[5]), True)]
    if kind == "revoke":
        return [("revoke", edit[1], not edit[2])]
    index = edit[1]
    rules = book[4]
    if kind == "rule" and index == len(rules):
        return [("unrule", index)]
    behind = index + 1 if kind == "rule" else len(rules)
    return [("rule", at, rule_copy(rules[at])) for at in range(index, behind)]


def addresses_in(books):
    """Return the list of the addresses that have an entry in one of some books, row by row."""
    found = {address: True for book in books for address in book[2]}
    return sorted(found, key=place_key)


def changed_cells(book, other):
    """Return the list of the addresses with another entry or author in the other book, row by row."""
    addresses = addresses_in([book, other])
    return [address for address in addresses if entry_of(book, address) != entry_of(other, address)]


def difference(book, other):
    """Return the list of the edits that make the other book of the book."""
    edits = [cell_edit(other, address) for address in changed_cells(book, other)]
    edits.extend(_rule_difference(book[4], other[4]))
    edits.extend(_grant_difference(book[5], other[5]))
    return edits


def _rule_difference(rules, others):
    edits = []
    for index, rule in enumerate(others):
        if index >= len(rules) or rules[index] != rule:
            edits.append(("rule", index, rule_copy(rule)))
    for index in reversed(range(len(others), len(rules))):
        edits.append(("unrule", index))
    return edits


def _grant_difference(grants, others):
    edits = []
    for index, grant in enumerate(others):
        revoked = False
        if index < len(grants):
            revoked = grants[index][4]
        else:
            area, functions, to, by, _ = grant_copy(grant)
            edits.append(("grant", (area, functions, to, by, False)))
        if grant[4] != revoked:
            edits.append(("revoke", index, grant[4]))
    return edits
