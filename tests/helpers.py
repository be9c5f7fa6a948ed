"""What several tests need."""

import copy
import random

from labelgrid.addresses import SHEET, parse_address, parse_range, show_address, show_range
from labelgrid.edits import apply_edit, empty_book
from labelgrid.errors import EditError
from tests import spelled

SIGNS = ["+", "-", "*", "/", "&", "=", "!=", "<", "<="]
TEXTS = ["1", "2.5", "-3", "TRUE", "FALSE", "ab", "", "0"]
ENTRIES = ["1", "7", "=A1", "=SUM(A1:B2)", "text", "'", "TRUE"]


def random_address(source):
    return (source.randrange(26), source.randrange(99))


def random_range(source, columns=26, rows=99):
    across = sorted([source.randrange(columns), source.randrange(columns)])
    down = sorted([source.randrange(rows), source.randrange(rows)])
    return ((across[0], down[0]), (across[1], down[1]))


def random_leaf(source):
    kind = source.randrange(5)
    if kind == 0:
        return ("num", source.choice([0, 1, 10000, 12500, 5000, 10 ** 15]))
    if kind == 1:
        return ("text", source.choice(["", "x", '"', 'say ""', "A1", "a" * 60]))
    if kind == 2:
        return ("bool", source.random() < 0.5)
    if kind == 3:
        return ("ref", random_address(source))
    return ("lost",)


def random_call(source, depth):
    name = source.choice(["SUM", "JOIN", "OR", "RSUM", "RMAX", "IF", "LEFT", "NOT", "ABS"])
    if name in ("RSUM", "RMAX"):
        arg = source.choice([("range", random_range(source)), ("ref", random_address(source)), ("lost",)])
        return ("call", name, [arg])
    if name in ("SUM", "JOIN", "OR"):
        args = [random_tree(source, depth - 1) for _ in range(source.randrange(1, 4))]
        if source.random() < 0.5:
            args.insert(source.randrange(len(args) + 1), ("range", random_range(source)))
        return ("call", name, args)
    count = {"IF": 3, "LEFT": 2}.get(name, 1)
    return ("call", name, [random_tree(source, depth - 1) for _ in range(count)])


def random_tree(source, depth):
    """A tree that can be read, made of few levels."""
    if depth == 0 or source.random() < 0.2:
        return random_leaf(source)
    kind = source.randrange(4)
    if kind == 0:
        return ("neg", random_tree(source, depth - 1))
    if kind == 1:
        return random_call(source, depth)
    return (source.choice(SIGNS), random_tree(source, depth - 1), random_tree(source, depth - 1))


def random_rule(source, first):
    users = [[user for user in range(3) if source.random() < 0.6] for _ in range(3)]
    area = SHEET if first else random_range(source, 3, 3)
    return (area, users[0], users[1], users[2])


def random_grant(source):
    to = [user for user in range(3) if source.random() < 0.6]
    return (random_range(source, 3, 3), [source.choice(["RSUM", "RMAX"])], to, source.randrange(3), False)


def random_edit(source, book):
    """An edit that perhaps does not fit."""
    kind = source.randrange(8)
    if kind < 4:
        address = (source.randrange(2), source.randrange(2))
        if source.random() < 0.3:
            return ("cell", address, "", None)
        return ("cell", address, source.choice(ENTRIES), source.randrange(book[1]))
    if kind == 4:
        index = source.randrange(len(book[4]) + 1)
        return ("rule", index, random_rule(source, index == 0))
    if kind == 5:
        return ("unrule", source.randrange(len(book[4]) + 1))
    if kind == 6:
        return ("grant", random_grant(source))
    return ("revoke", source.randrange(3), source.random() < 0.5)


def fitting_edit(source, book):
    """An edit that fits a book."""
    while True:
        edit = random_edit(source, book)
        try:
            apply_edit(book, edit)
            return edit
        except EditError:
            pass


def random_book(source, steps):
    """A book behind so many edits of the empty one."""
    book = empty_book(3)
    for _ in range(steps):
        book = apply_edit(book, fitting_edit(source, book))
    return book


def boxes_in(value):
    """All lists and dicts in a value, by their identity."""
    found = {}
    if isinstance(value, (list, dict)):
        found[id(value)] = value
    if isinstance(value, dict):
        value = list(value.items())
    if isinstance(value, (list, tuple)):
        for item in value:
            found.update(boxes_in(item))
    return found


def small_area(source, columns, rows):
    """The text of a range of a small sheet, or of an address."""
    area = random_range(source, columns, rows)
    return show_range(area) if source.random() < 0.7 else show_address(area[0])


def small_part(source, columns, rows):
    """The text of a part of a formula on a small sheet."""
    kind = source.randrange(8)
    area = small_area(source, columns, rows)
    address = show_address((source.randrange(columns), source.randrange(rows)))
    if kind < 2:
        return address
    if kind == 2:
        return source.choice(["1", "2.5", '"ab"', "TRUE", "#REF", f"-{address}", "RSUM(#REF)"])
    if kind == 3:
        return f"SUM({area})"
    if kind == 4:
        return f"IF({address}<2,{address},{small_part(source, columns, rows)})"
    if kind == 5:
        return f"MAX({address},RSUM({area}),{area})"
    return f"{source.choice(['RSUM', 'RMAX', 'RCOUNT'])}({area})"


def small_text(source, columns, rows, constants):
    """An entry on a small sheet, one of so many hundreds a constant."""
    if source.randrange(100) < constants:
        return source.choice(["1", "-2", "7.25", "abc", "'", "TRUE", "0"])
    parts = [small_part(source, columns, rows) for _ in range(source.randrange(1, 3))]
    return "=" + source.choice(["+", "*", "&", "<"]).join(parts)


def small_entries(source, columns, rows, constants=50, share=60):
    """Entries on a small sheet; so many hundreds of the addresses have one."""
    cells = [(column, row) for row in range(rows) for column in range(columns)]
    source.shuffle(cells)
    return {cell: small_text(source, columns, rows, constants) for cell in cells if source.randrange(100) < share}


def users_from(source, count, share=0.7):
    return [user for user in range(count) if source.random() < share]


def small_rule(source, users, columns, rows):
    lists = [users_from(source, users) for _ in range(3)]
    return (random_range(source, columns, rows), lists[0], lists[1], lists[2])


def called_areas(entries):
    """The ranges of the released calls in entries."""
    areas = [area for cell in entries if spelled.formula(entries, cell) is not None
             for area, _, function in spelled.uses(spelled.formula(entries, cell)) if function is not None]
    return areas or [((0, 0), (0, 0))]


def small_grant(source, users, areas):
    """A grant of the range of a call, or nearly."""
    functions = [name for name in spelled.RELEASED if source.random() < 0.6] or ["RSUM"]
    to = users_from(source, users, 0.6)
    return (source.choice(areas), functions, to, source.randrange(users), source.random() < 0.15)


def small_book(source, columns=4, rows=4, users=3, constants=50):
    """A book on a small sheet with rules, and grants of ranges that are called."""
    entries = small_entries(source, columns, rows, constants)
    authors = {cell: source.randrange(users) for cell in entries}
    everybody = list(range(users))
    rules = [(SHEET, everybody, everybody, users_from(source, users, 0.9))]
    rules += [small_rule(source, users, columns, rows) for _ in range(source.randrange(4))]
    areas = called_areas(entries)
    grants = [small_grant(source, users, areas) for _ in range(source.randrange(5))]
    return ("book", users, entries, authors, rules, grants)


def check_pure(test, function, *args):
    """Call a function; fail if it modifies an argument or returns a list or dict of one."""
    before = copy.deepcopy(args)
    found = function(*args)
    test.assertEqual(args, before)
    passed = boxes_in(args)
    test.assertEqual([box for box in boxes_in(found) if box in passed], [])
    return found


def source_of(seed):
    return random.Random(seed)


def at(text):
    return parse_address(text)


def all_at(texts):
    """The addresses of a text like "A1 B2"; None stays."""
    return None if texts is None else [parse_address(text) for text in texts.split()]


def area_of(text):
    return parse_range(text)


def num(n):
    return ("num", n * 10000)


def book_of(entries, rules=(), grants=(), users=3, authors=None):
    """A book with entries at addresses by their names.

    Everybody may read and write everything, and the user 0 owns it, but for the rules: texts of ranges with up to three
    lists of users, [0] where they are missing. All authors are the user 0, but for those at addresses by their names.
    """
    made = {at(name): entries[name] for name in entries}
    everybody = list(range(users))
    listed = [(SHEET, everybody, list(everybody), [0])]
    for text, *lists in rules:
        lists = lists + [[0]] * (3 - len(lists))
        listed.append((area_of(text), list(lists[0]), list(lists[1]), list(lists[2])))
    writers = {cell: 0 for cell in made}
    writers.update({at(name): user for name, user in (authors or {}).items()})
    return ("book", users, made, writers, listed, list(grants))


def grant_of(text, functions=("RSUM",), to=(1,), by=0, revoked=False):
    return (area_of(text), list(functions), list(to), by, revoked)


def random_changes(source, book, columns, rows, constants=40):
    """A book that differs in the entries and authors of some addresses, and the list of these."""
    entries, authors = dict(book[2]), dict(book[3])
    cells = [(source.randrange(columns), source.randrange(rows)) for _ in range(source.randrange(4))]
    for cell in cells:
        if source.random() < 0.3:
            entries.pop(cell, None)
            authors.pop(cell, None)
            continue
        if cell not in entries or source.random() < 0.7:
            entries[cell] = small_text(source, columns, rows, constants)
        authors[cell] = source.randrange(book[1])
    return ("book", book[1], entries, authors, book[4], book[5]), cells
