"""What is reached from an address, step by step; sets of addresses are integers (labelgrid.cellsets).

`uses_at` is a function that returns the set of the addresses that the formula of an address uses.
"""

from labelgrid.cellsets import bit_of, cells_in, first_in, mask_of_cells


def spread(first, formulas, uses_at):
    """Return a set with all addresses that are reached from the formula cells in it."""
    found = first
    waiting = first & formulas
    while waiting != 0:
        cell = first_in(waiting)
        further = uses_at(cell) & ~found
        found = found | further
        waiting = (waiting ^ bit_of(cell)) | (further & formulas)
    return found


def first_path(start, goal, formulas, uses_at):
    """Return the first one of the shortest paths from an address to one of a set, or None.

    A path is a list of at least two addresses, each but the last one of which uses the next one. Paths of equal
    length are compared address by address, each pair row by row.
    """
    layers = [bit_of(start)]
    found = layers[0]
    uses = {}
    while True:
        ahead = 0
        for cell in cells_in(layers[-1]):
            uses[cell] = uses_at(cell)
            ahead = ahead | uses[cell]
        if ahead & goal != 0:
            return _path_through(layers, goal, uses)
        further = ahead & formulas & ~found
        if further == 0:
            return None
        found = found | further
        layers.append(further)


def _path_through(layers, goal, uses):
    """Return the first path that has an address of each layer, and then one of the goal."""
    steps = [goal]
    for layer in reversed(layers):
        # Only these lead to the goal in the steps that are left.
        leading = [cell for cell in cells_in(layer) if uses[cell] & steps[-1] != 0]
        steps.append(mask_of_cells(leading))
    steps = steps[::-1]
    path = [first_in(steps[0])]
    for step in steps[1:]:
        path.append(first_in(uses[path[-1]] & step))
    return path
