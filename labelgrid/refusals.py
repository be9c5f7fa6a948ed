"""Why deeds are refused, as far as the book alone tells."""

from labelgrid.addresses import size_of
from labelgrid.entries import is_entry
from labelgrid.rights import may, may_all

MOST_TOLD = 100
MOST_RULES = 40
MOST_GRANTS = 40


def _set_refusal(book, user, deed):
    _, address, text = deed
    if not may(book[4], user, "write", address):
        return "rights"
    return None if is_entry(text) else "entry"


def _undo_refusal(book, user, deed):
    may_both = may(book[4], user, "read", deed[1]) and may(book[4], user, "write", deed[1])
    return None if may_both else "rights"


def _read_refusal(book, user, deed):
    return None if may(book[4], user, "read", deed[1]) else "rights"


def _size_refusal(book, user, deed):
    return None if size_of(deed[1]) <= MOST_TOLD else "size"


def _rule_refusal(book, user, deed):
    if not may_all(book[4], user, "own", deed[1]):
        return "rights"
    return None if len(book[4]) < MOST_RULES else "size"


def _grant_refusal(book, user, deed):
    if not may_all(book[4], user, "own", deed[1]):
        return "rights"
    return None if len(book[5]) < MOST_GRANTS else "size"


def _revoke_refusal(book, user, deed):
    index = deed[1]
    if not 0 <= index < len(book[5]) or book[5][index][4]:
        return "nothing"
    area, _, _, by, _ = book[5][index]
    return None if user == by or may_all(book[4], user, "own", area) else "rights"


REFUSALS = {
    "set": _set_refusal,
    "undo": _undo_refusal,
    "read": _size_refusal,
    "entry": _read_refusal,
    "why": _read_refusal,
    "rule": _rule_refusal,
    "grant": _grant_refusal,
    "revoke": _revoke_refusal,
    "follow": _size_refusal,
}


def refusal(book, user, deed):
    """Return the reason for which a deed of a user is refused in a book, or None."""
    if deed[0] not in REFUSALS:
        return None
    action = REFUSALS[deed[0]]
    return action(book, user, deed)
