"""The values of formulas and entries."""

from labelgrid.addresses import cells_of
from labelgrid.functions import WRONG_VALUE, apply_function, apply_operator, is_error, negated, truth_in
from labelgrid.trees import RELEASED, spine_of

LOST_NAME = ("error", "name")


def evaluate(tree, values):
    """Return the value of a formula for a dict from addresses to values."""
    first, links = spine_of(tree)
    value = _part_value(first, values)
    for sign, right in links:
        value = apply_operator(sign, value, evaluate(right, values))
    return value


def _part_value(part, values):
    """Return the value of a tree that is no operator with two operands."""
    kind = part[0]
    if kind == "ref":
        return values.get(part[1])
    if kind == "lost":
        return LOST_NAME
    if kind == "neg":
        return negated(evaluate(part[1], values))
    if kind != "call":
        return part
    if part[1] == "IF":
        return _branch_value(part[2], values)
    return apply_function(part[1], [_argument(part[1], arg, values) for arg in part[2]])


def _branch_value(args, values):
    """Return the value of an IF, which does not look at one of its branches."""
    test = evaluate(args[0], values)
    if is_error(test):
        return test
    truth = truth_in(test)
    if truth is None:
        return WRONG_VALUE
    return evaluate(args[1] if truth else args[2], values)


def _argument(name, arg, values):
    """Return the pair that a function gets for an argument."""
    if arg[0] == "range":
        return ("many", [values.get(address) for address in cells_of(arg[1])])
    value = evaluate(arg, values)
    return ("many", [value]) if name in RELEASED else ("one", value)


def entry_value(parsed, values):
    """Return the value of what an entry is."""
    if parsed is None:
        return None
    kind, what = parsed
    return evaluate(what, values) if kind == "formula" else what
