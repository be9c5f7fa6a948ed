"""What several tests need."""

import copy
import random

from labelgrid.addresses import SHEET
from labelgrid.edits import apply_edit, empty_book
from labelgrid.errors import EditError

SIGNS = ["+", "-", "*", "/", "&", "=", "!=", "<", "<="]
TEXTS = ["1", "2.5", "-3", "TRUE", "FALSE", "ab", "", "0"]
ENTRIES = ["1", "7", "=A1", "=SUM(A1:B2)", "text", "'", "TRUE"]


def random_address(source):
    return (source.randrange(26), source.randrange(99))


def random_range(source, columns=26, rows=99):
    across = sorted([source.randrange(columns), source.randrange(columns)])
    down = sorted([source.randrange(rows), source.randrange(rows)])
    return ((across[0], down[0]), (across[1], down[1]))


def random_leaf(source):
    kind = source.randrange(5)
    if kind == 0:
        return ("num", source.choice([0, 1, 10000, 12500, 5000, 10 ** 15]))
    if kind == 1:
        return ("text", source.choice(["", "x", '"', 'say ""', "A1", "a" * 60]))
    if kind == 2:
        return ("bool", source.random() < 0.5)
    if kind == 3:
        return ("ref", random_address(source))
    return ("lost",)


def random_call(source, depth):
    name = source.choice(["SUM", "JOIN", "OR", "RSUM", "RMAX", "IF", "LEFT", "NOT", "ABS"])
    if name in ("RSUM", "RMAX"):
        arg = source.choice([("range", random_range(source)), ("ref", random_address(source)), ("lost",)])
        return ("call", name, [arg])
    if name in ("SUM", "JOIN", "OR"):
        args = [random_tree(source, depth - 1) for _ in range(source.randrange(1, 4))]
        if source.random() < 0.5:
            args.insert(source.randrange(len(args) + 1), ("range", random_range(source)))
        return ("call", name, args)
    count = {"IF": 3, "LEFT": 2}.get(name, 1)
    return ("call", name, [random_tree(source, depth - 1) for _ in range(count)])


def random_tree(source, depth):
    """A tree that can be read, made of few levels."""
    if depth == 0 or source.random() < 0.2:
        return random_leaf(source)
    kind = source.randrange(4)
    if kind == 0:
        return ("neg", random_tree(source, depth - 1))
    if kind == 1:
        return random_call(source, depth)
    return (source.choice(SIGNS), random_tree(source, depth - 1), random_tree(source, depth - 1))


def random_rule(source, first):
    users = [[user for user in range(3) if source.random() < 0.6] for _ in range(3)]
    area = SHEET if first else random_range(source, 3, 3)
    return (area, users[0], users[1], users[2])


def random_grant(source):
    to = [user for user in range(3) if source.random() < 0.6]
    return (random_range(source, 3, 3), [source.choice(["RSUM", "RMAX"])], to, source.randrange(3), False)


def random_edit(source, book):
    """An edit that perhaps does not fit."""
    kind = source.randrange(8)
    if kind < 4:
        address = (source.randrange(2), source.randrange(2))
        if source.random() < 0.3:
            return ("cell", address, "", None)
        return ("cell", address, source.choice(ENTRIES), source.randrange(book[1]))
    if kind == 4:
        index = source.randrange(len(book[4]) + 1)
        return ("rule", index, random_rule(source, index == 0))
    if kind == 5:
        return ("unrule", source.randrange(len(book[4]) + 1))
    if kind == 6:
        return ("grant", random_grant(source))
    return ("revoke", source.randrange(3), source.random() < 0.5)


def fitting_edit(source, book):
    """An edit that fits a book."""
    while True:
        edit = random_edit(source, book)
        try:
            apply_edit(book, edit)
            return edit
        except EditError:
            pass


def random_book(source, steps):
    """A book behind so many edits of the empty one."""
    book = empty_book(3)
    for _ in range(steps):
        book = apply_edit(book, fitting_edit(source, book))
    return book


def boxes_in(value):
    """All lists and dicts in a value, by their identity."""
    found = {}
    if isinstance(value, (list, dict)):
        found[id(value)] = value
    if isinstance(value, dict):
        value = list(value.items())
    if isinstance(value, (list, tuple)):
        for item in value:
            found.update(boxes_in(item))
    return found


def check_pure(test, function, *args):
    """Call a function; fail if it modifies an argument or returns a list or dict of one."""
    before = copy.deepcopy(args)
    found = function(*args)
    test.assertEqual(args, before)
    test.assertEqual([box for box in boxes_in(found) if box in boxes_in(args)], [])
    return found


def source_of(seed):
    return random.Random(seed)
