"""Formulas as trees: reading, showing and moving them."""

from labelgrid.addresses import SHEET, inside, range_between, show_address, show_range
from labelgrid.errors import EntryError
from labelgrid.numbers import show_number
from labelgrid.words import LOST, tokens_of

RELEASED = ("RSUM", "RCOUNT", "RAVG", "RMIN", "RMAX")
RANGED = ("SUM", "COUNT", "AVG", "MIN", "MAX", "AND", "OR", "JOIN")
# The functions whose arguments are trees alone, with the number of these.
PLAIN = {"IF": 3, "LEFT": 2, "ROUND": 2, "NOT": 1, "LEN": 1, "ABS": 1}
MOST_ARGUMENTS = 8
TRUTHS = {"TRUE": True, "FALSE": False}
COMPARISON = 1
RANKS = {"=": 1, "!=": 1, "<": 1, "<=": 1, "&": 2, "+": 3, "-": 3, "*": 4, "/": 4}
# What is no operator with two operands binds more than each of these.
PART_RANK = 5
DEEPEST = 20


def parse_formula(text, at):
    """Return the formula that a text has from an index on."""
    reader = Reader(text, at)
    tree = reader.read_tree(COMPARISON, 1)
    reader.end_here()
    return tree


class Reader:
    """The tokens of a formula, which are read from left to right."""

    def __init__(self, text, at):
        self.tokens = tokens_of(text, at)
        self.end = len(text)
        self.position = 0

    def here(self):
        """Return the index of the next token, or the length of the text if there is none."""
        if self.position < len(self.tokens):
            return self.tokens[self.position][2]
        return self.end

    def sign_at(self, ahead):
        """Return the sign so many tokens ahead, or the empty text if none stands there."""
        place = self.position + ahead
        if place < len(self.tokens) and self.tokens[place][0] == "sign":
            return self.tokens[place][1]
        return ""

    def take(self):
        """Return the next token and go behind it; it is an error if there is none."""
        if self.position == len(self.tokens):
            raise EntryError(self.end)
        self.position += 1
        return self.tokens[self.position - 1]

    def expect(self, sign):
        """Go behind a sign; anything else in its place is an error."""
        if self.sign_at(0) != sign:
            raise EntryError(self.here())
        self.position += 1

    def end_here(self):
        """Raise EntryError if there is a further token."""
        if self.position < len(self.tokens):
            raise EntryError(self.here())

    def read_tree(self, lowest, depth):
        """Read operands with the operators between them that have at least the lowest rank."""
        tree = self.read_operand(depth)
        while RANKS.get(self.sign_at(0), 0) >= lowest:
            sign = self.take()[1]
            rank = RANKS[sign]
            tree = (sign, tree, self.read_tree(rank + 1, depth))
            if rank == COMPARISON:
                # A comparison is no part of a further one.
                lowest = rank + 1
        return tree

    def check_depth(self, depth):
        """Raise EntryError at the next token if it is nested too deep."""
        if depth > DEEPEST:
            raise EntryError(self.here())

    def read_operand(self, depth):
        """Read a part that is no operator with two operands."""
        self.check_depth(depth)
        kind, what, at = self.take()
        if kind == "lost":
            return ("lost",)
        if kind == "word":
            return self.read_word(what, at, depth)
        if kind != "sign":
            return (kind, what)
        if what == "-":
            return ("neg", self.read_operand(depth + 1))
        if what != "(":
            raise EntryError(at)
        tree = self.read_tree(COMPARISON, depth + 1)
        self.expect(")")
        return tree

    def read_word(self, word, at, depth):
        """Read what a word begins: a truth, or a call with its arguments."""
        if word in TRUTHS:
            return ("bool", TRUTHS[word])
        if word not in PLAIN and word not in RANGED and word not in RELEASED:
            raise EntryError(at)
        self.expect("(")
        args = [self.read_argument(word, depth + 1)]
        while self.sign_at(0) == ",":
            self.take()
            args.append(self.read_argument(word, depth + 1))
        self.expect(")")
        if not _has_count(word, len(args)):
            raise EntryError(at)
        return ("call", word, args)

    def read_argument(self, word, depth):
        """Read a tree or a range; one that the function does not take is an error."""
        at = self.here()
        if self.sign_at(1) == ":" and self.tokens[self.position][0] == "ref":
            self.check_depth(depth)
            arg = ("range", self.read_range())
        else:
            arg = self.read_tree(COMPARISON, depth)
        if not _takes(word, arg):
            raise EntryError(at)
        return arg

    def read_range(self):
        """Read two addresses with a colon between them."""
        first = self.take()[1]
        self.expect(":")
        kind, last, at = self.take()
        if kind != "ref" or range_between(first, last) is None:
            raise EntryError(at)
        return (first, last)


def _has_count(name, count):
    """Return whether a function may have so many arguments."""
    if name in RANGED:
        return 1 <= count <= MOST_ARGUMENTS
    return count == PLAIN.get(name, 1)


def _takes(name, arg):
    """Return whether a function may have a tree or range among its arguments."""
    if name in RELEASED:
        return arg[0] in ("range", "ref", "lost")
    return name in RANGED or arg[0] != "range"


def spine_of(tree):
    """Return the leftmost operand of a tree, and the pairs of a sign and a right operand that follow it.

    Long sums lean to the left: going along them in a loop keeps recursion as shallow as the nesting.
    """
    links = []
    while tree[0] in RANKS:
        links.append((tree[0], tree[2]))
        tree = tree[1]
    return tree, links[::-1]


def show_formula(tree):
    """Return the text of a formula."""
    first, links = spine_of(tree)
    text = _show_part(first)
    rank = PART_RANK
    for sign, right in links:
        own = RANKS[sign]
        if rank < own or rank == own == COMPARISON:
            text = f"({text})"
        text = f"{text} {sign} {_show_above(right, own)}"
        rank = own
    return text


def _show_above(tree, rank):
    """Return the text of a tree, in parentheses unless its rank is above another one."""
    text = show_formula(tree)
    if RANKS.get(tree[0], PART_RANK) > rank:
        return text
    return f"({text})"


def _show_part(part):
    """Return the text of a range, or of a tree that is no operator with two operands."""
    kind = part[0]
    if kind == "num":
        return show_number(part[1])
    if kind == "text":
        doubled = part[1].replace('"', '""')
        return f'"{doubled}"'
    if kind == "bool":
        return "TRUE" if part[1] else "FALSE"
    if kind == "ref":
        return show_address(part[1])
    if kind == "range":
        return show_range(part[1])
    if kind == "lost":
        return LOST
    if kind == "neg":
        return f"-{_show_above(part[1], PART_RANK - 1)}"
    args = ", ".join([show_formula(arg) for arg in part[2]])
    return f"{part[1]}({args})"


def inner_parts(tree):
    """Return the trees and ranges directly inside of a tree, which are not copied."""
    if tree[0] in RANKS:
        return [tree[1], tree[2]]
    if tree[0] == "neg":
        return [tree[1]]
    if tree[0] == "call":
        return list(tree[2])
    return []


def parts_of(tree):
    """Return the list of the trees and ranges directly inside of a tree."""
    return [_copied(part) for part in inner_parts(tree)]


def calls_of(tree):
    """Return the list of the calls in a tree, each one in front of those inside of it."""
    calls = []
    waiting = [tree]
    while waiting:
        part = waiting.pop()
        if part[0] == "call":
            calls.append(_copied(part))
        waiting.extend(inner_parts(part)[::-1])
    return calls


def _copied(tree):
    """Return a tree that shares no list with another one."""
    return rebuilt(tree, lambda part: part)


def rebuilt(tree, change):
    """Return a tree with what `change` makes of each address and range, or None if it makes None of one."""
    first, links = spine_of(tree)
    made = _rebuilt_part(first, change)
    for sign, right in links:
        other = rebuilt(right, change)
        if made is None or other is None:
            return None
        made = (sign, made, other)
    return made


def _rebuilt_part(part, change):
    if part[0] in ("ref", "range"):
        return change(part)
    if part[0] == "neg":
        inner = rebuilt(part[1], change)
        return None if inner is None else ("neg", inner)
    if part[0] == "call":
        args = [rebuilt(arg, change) for arg in part[2]]
        return None if None in args else ("call", part[1], args)
    return part


def moved(tree, by):
    """Return the tree moved by a pair of columns and rows, or None if an address would leave the sheet."""
    return rebuilt(tree, lambda part: _moved_part(part, by))


def _moved_part(part, by):
    """Return a reference or a range moved, or None."""
    if part[0] == "ref":
        address = _moved_address(part[1], by)
        return None if address is None else ("ref", address)
    first = _moved_address(part[1][0], by)
    last = _moved_address(part[1][1], by)
    return None if first is None or last is None else ("range", (first, last))


def _moved_address(address, by):
    """Return an address moved, or None beyond the sheet."""
    goal = (address[0] + by[0], address[1] + by[1])
    return goal if inside(goal, SHEET) else None
