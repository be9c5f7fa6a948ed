"""Copies that share no list and no dict with what they are copies of."""


def rule_copy(rule):
    """Return a copy of a rule."""
    area, read, write, own = rule
    return (area, list(read), list(write), list(own))


def grant_copy(grant):
    """Return a copy of a grant."""
    area, functions, to, by, revoked = grant
    return (area, list(functions), list(to), by, revoked)


def edit_copy(edit):
    """Return a copy of an edit."""
    if edit[0] == "rule":
        return ("rule", edit[1], rule_copy(edit[2]))
    if edit[0] == "grant":
        return ("grant", grant_copy(edit[1]))
    return edit


def address_dict_copy(table):
    """Return a copy of a dict from addresses to texts or users."""
    return {address: table[address] for address in table}


def deed_copy(deed):
    """Return a copy of a deed."""
    return tuple([list(part) if isinstance(part, list) else part for part in deed])
