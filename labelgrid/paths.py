"""What is reached from an address, step by step; sets of addresses are integers (labelgrid.cellsets).

`uses_at` is a function that returns the set of the addresses that the formula of an address uses.
"""

from labelgrid.cellsets import bit_of, cells_in, first_in, mask_of_cells


def spread(first, formulas, uses_at):
    """Return a set with all addresses that are reached from the formula cells in it."""
    found = first
    waiting = first & formulas
    while waiting != 0:
        cell = first_in(waiting)
        further = uses_at(cell) & ~found
        found = found | further
        waiting = (waiting ^ bit_of(cell)) | (further & formulas)
    return found


def first_path(starts, goal, formulas, uses_at):
    """Return the first one of the shortest paths from an address of a set to one of another set, or None.

    A path is a list of addresses, each but the last one of which is a formula cell that uses the next one. Paths of
    equal length are compared address by address, each pair row by row.
    """
    layers = [starts]
    found = starts
    uses = {}
    while layers[-1] & goal == 0:
        ahead = 0
        for cell in cells_in(layers[-1] & formulas):
            uses[cell] = uses_at(cell)
            ahead = ahead | uses[cell]
        further = ahead & ~found
        if further == 0:
            return None
        found = found | further
        layers.append(further)
    return _path_through(layers, goal, uses)


def _path_through(layers, goal, uses):
    """Return the first path that has an address of each layer, the last one of which is in the goal."""
    steps = [layers[-1] & goal]
    for layer in reversed(layers[:-1]):
        # Only these lead to the goal in the steps that are left.
        leading = [cell for cell in cells_in(layer) if uses.get(cell, 0) & steps[-1] != 0]
        steps.append(mask_of_cells(leading))
    steps = steps[::-1]
    path = [first_in(steps[0])]
    for step in steps[1:]:
        path.append(first_in(uses[path[-1]] & step))
    return path
