"""What formulas use, and in which calls."""

from labelgrid.entries import parse_entry
from labelgrid.trees import RELEASED, inner_parts


def range_of(part):
    """Return the range that an argument is, or that of the one address of a reference; None for other trees."""
    if part[0] == "range":
        return part[1]
    if part[0] == "ref":
        return (part[1], part[1])
    return None


def placed_uses(tree):
    """Return the triples of the range, the node and the function of all uses, in the order of the text.

    The node and the function are those of the released call that the use is in, or None.
    """
    uses = []
    calls = 0
    waiting = [(tree, None, None)]
    while waiting:
        part, node, function = waiting.pop()
        area = range_of(part)
        if area is not None:
            uses.append((area, node, function))
        node = None
        function = None
        if part[0] == "call":
            if part[1] in RELEASED:
                node = calls
                function = part[1]
            calls = calls + 1
        waiting.extend([(inner, node, function) for inner in inner_parts(part)[::-1]])
    return uses


def uses_of(tree):
    """Return the list of the pairs of the range and the node of all uses; the node is None for a use by itself."""
    return [(area, node) for area, node, _ in placed_uses(tree)]


def used_ranges(tree):
    """Return the list of the ranges of all uses, in the order of the text."""
    return [area for area, _, _ in placed_uses(tree)]


def is_formula(text):
    """Return whether an entry is a formula."""
    return text[:1] == "="


def uses_in_entry(text):
    """Return the triples of all uses in the formula of an entry; the empty list if it is none."""
    if not is_formula(text):
        return []
    return placed_uses(parse_entry(text)[1])
