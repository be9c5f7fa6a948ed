"""The words of the document, spelled out slowly with sets, to test the program against them."""

from labelgrid.addresses import cells_of
from labelgrid.entries import parse_entry
from labelgrid.evaluating import evaluate

OPERATORS = ["+", "-", "*", "/", "&", "=", "!=", "<", "<="]
RELEASED = ["RSUM", "RCOUNT", "RAVG", "RMIN", "RMAX"]


def row_by_row(cells):
    return sorted(cells, key=lambda cell: (cell[1], cell[0]))


def formula(entries, address):
    """The tree of a formula cell, or None."""
    parsed = parse_entry(entries.get(address, ""))
    return parsed[1] if parsed is not None and parsed[0] == "formula" else None


def formula_cells(entries):
    return {address for address in entries if formula(entries, address) is not None}


def uses(tree):
    """All uses of a formula (point 40): lists of the range, the node and the function, or None and None."""
    found = []
    numbers = [0]

    def go(part, node, function):
        if part[0] == "ref":
            found.append(((part[1], part[1]), node, function))
        elif part[0] == "range":
            found.append((part[1], node, function))
        elif part[0] == "neg":
            go(part[1], None, None)
        elif part[0] in OPERATORS:
            go(part[1], None, None)
            go(part[2], None, None)
        elif part[0] == "call":
            own = numbers[0]
            numbers[0] += 1
            for arg in part[2]:
                go(arg, own if part[1] in RELEASED else None, part[1] if part[1] in RELEASED else None)

    go(tree, None, None)
    return found


def used(entries, address, but=lambda area, node, function: False):
    """The set of the addresses that the formula of an address uses, but for some uses."""
    tree = formula(entries, address)
    cells = set()
    for area, node, function in uses(tree) if tree is not None else []:
        if not but(area, node, function):
            cells.update(cells_of(area))
    return cells


def reached(edges, address):
    """All that is reached in at least one step; edges is a dict from formula cells to sets of addresses."""
    found, waiting = set(), [address]
    while waiting:
        for cell in edges.get(waiting.pop(), ()):
            if cell not in found:
                found.add(cell)
                waiting.append(cell)
    return found


def edges_of(entries):
    return {address: used(entries, address) for address in formula_cells(entries)}


def circular_cells(edges):
    """Point 42."""
    in_circles = {cell for cell in edges if cell in reached(edges, cell)}
    return {cell for cell in edges if cell in in_circles or reached(edges, cell) & in_circles}


def in_work_order(edges, cells):
    """Point 43, step by step."""
    left, order = set(cells), []
    while left:
        free = [cell for cell in left if not edges[cell] & left]
        order.append(row_by_row(free)[0])
        left.remove(order[-1])
    return order


def values(entries):
    """Point 44: the dict of the values that are not None."""
    edges = edges_of(entries)
    circles = circular_cells(edges)
    found = {}

    def value(address):
        if address in found:
            return found[address]
        parsed = parse_entry(entries.get(address, ""))
        if parsed is None or parsed[0] == "value":
            found[address] = parsed and parsed[1]
        elif address in circles:
            found[address] = ("error", "cycle")
        else:
            found[address] = evaluate(parsed[1], {cell: value(cell) for cell in edges[address]})
        return found[address]

    return {address: value(address) for address in entries if value(address) is not None}


def inside(address, area):
    (left, top), (right, bottom) = area
    return address[0] in range(left, right + 1) and address[1] in range(top, bottom + 1)


def rule_of(book, address):
    return [rule for rule in book[4] if inside(address, rule[0])][-1]


def may(book, user, right, address):
    return user in rule_of(book, address)[{"read": 1, "write": 2, "own": 3}[right]]


def is_live(book, grant):
    return not grant[4] and all(may(book, grant[3], "own", address) for address in cells_of(grant[0]))


def is_released(book, user, function, area):
    return any(grant[0] == area and function in grant[1] and user in grant[2] and is_live(book, grant) for grant in book[5])


def hidden_edges(book, user):
    """For each formula cell the set of the addresses that it uses, but for calls that are released to the user."""
    def released(area, node, function):
        return node is not None and is_released(book, user, function, area)
    return {address: used(book[2], address, released) for address in formula_cells(book[2])}


def sees(book, user, address, edges=None):
    """Point 49."""
    edges = hidden_edges(book, user) if edges is None else edges
    return all(may(book, user, "read", cell) for cell in {address} | reached(edges, address))


def label(book, address):
    return [user for user in range(book[1]) if sees(book, user, address)]


def is_way(book, user, address, way):
    edges = hidden_edges(book, user)
    steps = all(there in edges.get(here, ()) for here, there in zip(way, way[1:]))
    return bool(way) and way[0] == address and steps and not may(book, user, "read", way[-1])


def shortest_way(book, user, address):
    """Point 53, by trying all ways of each length without an address twice, the first ones first."""
    edges = hidden_edges(book, user)
    ways = [[address]]
    while ways:
        for way in ways:
            if not may(book, user, "read", way[-1]):
                return way
        # Of the ways to an address the first one serves.
        further, taken = [], {cell for way in ways for cell in way}
        for way in ways:
            for cell in row_by_row(edges.get(way[-1], ())):
                if cell not in taken:
                    taken.add(cell)
                    further.append(way + [cell])
        ways = further
    return None


def is_open_list(book, user, address, cells):
    """Point 54."""
    edges = hidden_edges(book, user)
    if len(set(cells)) < len(cells) or any(cell not in edges for cell in cells):
        return False
    if not all(may(book, user, "read", cell) for cell in cells + [address]):
        return False
    if address in edges and address not in cells:
        return False
    return all(may(book, user, "read", there) and (there not in edges or there in cells)
               for cell in cells for there in edges[cell])


def below(entries, address):
    """Point 52: the addresses of the entries on which an address rests."""
    return [cell for cell in row_by_row({address} | reached(edges_of(entries), address)) if cell in entries]
