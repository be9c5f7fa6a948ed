"""Two worlds: books that are alike for a user, and whether what the user is told is the same in both."""

from labelgrid.cellsets import cells_in, has_cell
from labelgrid.denoting import denote, released_value
from labelgrid.desk import Desk
from labelgrid.edits import entry_of
from labelgrid.hiding import Hiding
from labelgrid.rights import may, refused_set


def told_values(book, user):
    """Return the list of the triples (address, node, value) of the calls that are released to a user."""
    hiding = Hiding(book)
    calls = []
    for address in cells_in(hiding.formula_set() & ~hiding.closed_set(user)):
        released = hiding.released_at(user, address)
        calls.extend([(address, node, function, area) for node, function, area in released])
    # Without calls no values are needed.
    values = denote(book[2]) if calls else {}
    areas = {(function, area): True for _, _, function, area in calls}
    told = {(function, area): released_value(function, area, values) for function, area in areas}
    return [(address, node, told[(function, area)]) for address, node, function, area in calls]


def _readable(book, user):
    """Return a dict from the addresses with entries that a user may read to their entries and authors."""
    closed = refused_set(book[4], user, "read")
    return {address: entry_of(book, address) for address in book[2] if not has_cell(closed, address)}


def alike(user, book, other):
    """Return whether two books are alike for a user."""
    if book[1] != other[1] or book[4] != other[4] or book[5] != other[5]:
        return False
    if _readable(book, user) != _readable(other, user):
        return False
    return told_values(book, user) == told_values(other, user)


def secret(user, book, operation):
    """Return whether an operation, a pair of a user and a deed, is secret from a user for a book."""
    actor, deed = operation
    if actor == user or (deed[0] != "set" and deed[0] != "undo"):
        return False
    return not may(book[4], user, "read", deed[1])


def _past_secrets(user, desk, operations, place):
    """Let a desk perform the operations from a place on that are secret, and return the place behind them."""
    while place < len(operations) and secret(user, desk.book, operations[place]):
        actor, deed = operations[place]
        desk.perform(actor, deed)
        place = place + 1
    return place


def compare(user, books, operations):
    """Return the pair of "same", "different" or "unfair" and the number of the answers that were compared."""
    desks = [Desk(book) for book in books]
    places = [0, 0]
    compared = 0
    # The last books that were found to be alike.
    known = []
    while True:
        places = [_past_secrets(user, desk, operations[side], places[side]) for side, desk in enumerate(desks)]
        following = [operations[side][place:place + 1] for side, place in enumerate(places)]
        worlds = [desk.book for desk in desks]
        # Two lists at their ends have the same, nothing, in front of them.
        if following[0] != following[1] or (worlds != known and not alike(user, worlds[0], worlds[1])):
            return ("unfair", compared)
        known = worlds
        if not following[0]:
            return ("same", compared)
        actor, deed = following[0][0]
        answers = [desk.perform(actor, deed) for desk in desks]
        if actor == user:
            compared = compared + 1
            if answers[0] != answers[1]:
                return ("different", compared)
        places = [place + 1 for place in places]
