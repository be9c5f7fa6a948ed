"""The words of the document, spelled out slowly with sets, to test the program against them."""

import functools
import itertools

from labelgrid.addresses import cells_of
from labelgrid.entries import parse_entry
from labelgrid.evaluating import evaluate
from labelgrid.functions import apply_function, apply_operator

OPERATORS = ["+", "-", "*", "/", "&", "=", "!=", "<", "<="]
RELEASED = ["RSUM", "RCOUNT", "RAVG", "RMIN", "RMAX"]


def row_by_row(cells):
    return sorted(cells, key=lambda cell: (cell[1], cell[0]))


def formula(entries, address):
    """The tree of a formula cell, or None."""
    parsed = parse_entry(entries.get(address, ""))
    return parsed[1] if parsed is not None and parsed[0] == "formula" else None


def formula_cells(entries):
    return {address for address in entries if formula(entries, address) is not None}


def uses(tree):
    """All uses of a formula (point 40): lists of the range, the node and the function, or None and None."""
    found = []
    numbers = [0]

    def go(part, node, function):
        if part[0] == "ref":
            found.append(((part[1], part[1]), node, function))
        elif part[0] == "range":
            found.append((part[1], node, function))
        elif part[0] == "neg":
            go(part[1], None, None)
        elif part[0] in OPERATORS:
            go(part[1], None, None)
            go(part[2], None, None)
        elif part[0] == "call":
            own = numbers[0]
            numbers[0] += 1
            for arg in part[2]:
                go(arg, own if part[1] in RELEASED else None, part[1] if part[1] in RELEASED else None)

    go(tree, None, None)
    return found


def used(entries, address, but=lambda area, node, function: False):
    """The set of the addresses that the formula of an address uses, but for some uses."""
    tree = formula(entries, address)
    cells = set()
    for area, node, function in uses(tree) if tree is not None else []:
        if not but(area, node, function):
            cells.update(cells_of(area))
    return cells


def reached(edges, address):
    """All that is reached in at least one step; edges is a dict from formula cells to sets of addresses."""
    found, waiting = set(), [address]
    while waiting:
        for cell in edges.get(waiting.pop(), ()):
            if cell not in found:
                found.add(cell)
                waiting.append(cell)
    return found


def edges_of(entries):
    return {address: used(entries, address) for address in formula_cells(entries)}


def circular_cells(edges):
    """Point 42."""
    in_circles = {cell for cell in edges if cell in reached(edges, cell)}
    return {cell for cell in edges if cell in in_circles or reached(edges, cell) & in_circles}


def in_work_order(edges, cells):
    """Point 43, step by step."""
    left, order = set(cells), []
    while left:
        free = [cell for cell in left if not edges[cell] & left]
        order.append(row_by_row(free)[0])
        left.remove(order[-1])
    return order


def values(entries):
    """Point 44: the dict of the values that are not None."""
    edges = edges_of(entries)
    circles = circular_cells(edges)
    found = {}

    def value(address):
        if address in found:
            return found[address]
        parsed = parse_entry(entries.get(address, ""))
        if parsed is None or parsed[0] == "value":
            found[address] = parsed and parsed[1]
        elif address in circles:
            found[address] = ("error", "cycle")
        else:
            found[address] = evaluate(parsed[1], {cell: value(cell) for cell in edges[address]})
        return found[address]

    return {address: value(address) for address in entries if value(address) is not None}


def inside(address, area):
    (left, top), (right, bottom) = area
    return address[0] in range(left, right + 1) and address[1] in range(top, bottom + 1)


def rule_of(book, address):
    return [rule for rule in book[4] if inside(address, rule[0])][-1]


def may(book, user, right, address):
    return user in rule_of(book, address)[{"read": 1, "write": 2, "own": 3}[right]]


def is_live(book, grant):
    return not grant[4] and all(may(book, grant[3], "own", address) for address in cells_of(grant[0]))


def is_released(book, user, function, area):
    return any(grant[0] == area and function in grant[1] and user in grant[2] and is_live(book, grant) for grant in book[5])


def hidden_edges(book, user):
    """For each formula cell the set of the addresses that it uses, but for calls that are released to the user."""
    def released(area, node, function):
        return node is not None and is_released(book, user, function, area)
    return {address: used(book[2], address, released) for address in formula_cells(book[2])}


def sees(book, user, address, edges=None):
    """Point 49."""
    edges = hidden_edges(book, user) if edges is None else edges
    return all(may(book, user, "read", cell) for cell in {address} | reached(edges, address))


def label(book, address):
    return [user for user in range(book[1]) if sees(book, user, address)]


def is_way(book, user, address, way):
    edges = hidden_edges(book, user)
    steps = all(there in edges.get(here, ()) for here, there in zip(way, way[1:]))
    return bool(way) and way[0] == address and steps and not may(book, user, "read", way[-1])


def shortest_way(book, user, address):
    """Point 53, by trying all ways of each length without an address twice, the first ones first."""
    edges = hidden_edges(book, user)
    ways = [[address]]
    while ways:
        for way in ways:
            if not may(book, user, "read", way[-1]):
                return way
        # Of the ways to an address the first one serves.
        further, taken = [], {cell for way in ways for cell in way}
        for way in ways:
            for cell in row_by_row(edges.get(way[-1], ())):
                if cell not in taken:
                    taken.add(cell)
                    further.append(way + [cell])
        ways = further
    return None


def is_open_list(book, user, address, cells):
    """Point 54."""
    edges = hidden_edges(book, user)
    if len(set(cells)) < len(cells) or any(cell not in edges for cell in cells):
        return False
    if not all(may(book, user, "read", cell) for cell in cells + [address]):
        return False
    if address in edges and address not in cells:
        return False
    return all(may(book, user, "read", there) and (there not in edges or there in cells)
               for cell in cells for there in edges[cell])


def below(entries, address):
    """Point 52: the addresses of the entries on which an address rests."""
    return [cell for cell in row_by_row({address} | reached(edges_of(entries), address)) if cell in entries]


def calls_of(book):
    """The triples of address, node and range with the function of all calls that may be released."""
    return [(cell, node, area, function) for cell in row_by_row(formula_cells(book[2]))
            for area, node, function in uses(formula(book[2], cell)) if node is not None]


def seen_if(book, user, address, calls):
    """Point 72."""
    edges = {}
    for cell in formula_cells(book[2]):
        def released(area, node, function):
            return node is not None and ((cell, node) in calls or is_released(book, user, function, area))
        edges[cell] = used(book[2], cell, released)
    return sees(book, user, address, edges)


def fewest_calls(book, user, address, most):
    """Point 73: how many calls are enough at least, None if none are, or most + 1 for more than so many."""
    calls = [(cell, node) for cell, node, area, function in calls_of(book) if not is_released(book, user, function, area)]
    if not seen_if(book, user, address, calls):
        return None
    for count in range(min(most, len(calls)) + 1):
        if any(seen_if(book, user, address, picked) for picked in itertools.combinations(calls, count)):
            return count
    return most + 1


def is_step_way(book, user, address, way):
    """Point 71."""
    if not is_way(book, user, address, [cell for cell, _ in way]) or way[-1][1] is not None:
        return False
    for (here, node), (there, _) in zip(way, way[1:]):
        found = [area for area, other, function in uses(formula(book[2], here)) if other == node
                 and (node is None or not is_released(book, user, function, area))]
        if not may(book, user, "read", here) or not any(inside(there, area) for area in found):
            return False
    return True


def vouchers(book, endorsements):
    """Point 56: a dict from the endorsed addresses to the sets of their endorsers."""
    found, worth = {}, values(book[2])
    for _, address, value, user in endorsements:
        circular = worth.get(address) == ("error", "cycle")
        if may(book, user, "own", address) and worth.get(address) == value and not circular:
            found.setdefault(address, set()).add(user)
    return found


def leads_to(book, endorsed, address):
    """Point 57: the set of the addresses to which an address leads."""
    edges = {cell: edge for cell, edge in edges_of(book[2]).items() if cell not in endorsed}
    return {address} | reached(edges, address)


def trusted_sources(book, endorsements, address):
    endorsed, users = vouchers(book, endorsements), set()
    for cell in leads_to(book, endorsed, address):
        users |= endorsed[cell] if cell in endorsed else {book[3][cell]} if cell in book[2] else set()
    return sorted(users)


def is_trust_way(book, endorsements, address, user, way):
    """Point 59."""
    endorsed = vouchers(book, endorsements)
    for here, there in zip(way, way[1:]):
        if here in endorsed or there not in used(book[2], here):
            return False
    if not way or way[0] != address:
        return False
    last = way[-1]
    return user in endorsed[last] if last in endorsed else last in book[2] and book[3][last] == user


def reaching(entries, addresses):
    """The formula cells that reach one of some addresses."""
    edges = edges_of(entries)
    return {cell for cell in edges if reached(edges, cell) & set(addresses)}


def compared(one, other):
    """Point 65: -1, 0 or 1 as a value is less, equal or greater."""
    kinds = [None, "num", "text", "bool", "error"]
    left, right = [kinds.index(value and value[0]) for value in (one, other)]
    if left != right:
        return -1 if left < right else 1
    if one == other:
        return 0
    return -1 if one[1] < other[1] else 1


def answer(query, worth, seen):
    """Points 64 and 65."""
    ((left, top), (_, bottom)), filters, output = query
    looked = [column for column, _, _ in filters] + list(output[1])
    looked += [column for column, _ in output[2]] if output[0] == "rows" else [output[3]]

    def value(row, column):
        return worth.get((left + column, row))

    def passes(row):
        return all(apply_operator(sign, value(row, column), other) == ("bool", True) for column, sign, other in filters)

    rows = [row for row in range(top, bottom + 1) if all((left + column, row) in seen for column in looked) and passes(row)]
    if output[0] == "rows":
        def before(one, other):
            for column, direction in output[2]:
                found = compared(value(one, column), value(other, column))
                if found:
                    return -found if direction == "down" else found
            return one - other
        rows.sort(key=functools.cmp_to_key(before))
        return [(row, [value(row, column) for column in output[1]]) for row in rows]
    groups = []
    for row in rows:
        key = [value(row, column) for column in output[1]]
        if key not in groups:
            groups.append(key)

    def earlier(one, other):
        return next((compared(left, right) for left, right in zip(one, other) if left != right), 0)

    groups.sort(key=functools.cmp_to_key(earlier))
    return [(key, apply_function(output[2], [("many", [value(row, output[3]) for row in rows
                                                       if [value(row, column) for column in output[1]] == key])]))
            for key in groups]


def releases(book):
    """Point 120, in the order of point 121."""
    return [(cell, node, index, list(grant[2])) for cell, node, area, function in calls_of(book)
            for index, grant in enumerate(book[5])
            if is_live(book, grant) and grant[0] == area and function in grant[1]]


def call_value(book, area, function):
    """Points 124 and 135."""
    many = [values(book[2]).get(cell) for cell in cells_of(area)]
    if ("error", "cycle") in many:
        return ("error", "cycle")
    return apply_function(function, [("many", many)])


def told_values(book, user):
    """Point 124."""
    return [(cell, node, call_value(book, area, function)) for cell, node, area, function in calls_of(book)
            if may(book, user, "read", cell) and is_released(book, user, function, area)]


def alike(user, book, other):
    """Point 125."""
    def readable(one):
        return {cell: (one[2][cell], one[3][cell]) for cell in one[2] if may(one, user, "read", cell)}
    return [book[at] == other[at] for at in (1, 4, 5)] == [True] * 3 and readable(book) == readable(other) \
        and told_values(book, user) == told_values(other, user)


def cuts(book, user, address):
    """Point 123."""
    through = {address} | reached(hidden_edges(book, user), address)
    edges = edges_of(book[2])
    areas = {(cell, node): area for cell, node, area, _ in calls_of(book)}

    def is_deep(cell):
        return not all(may(book, user, "read", other) for other in {cell} | reached(edges, cell))

    return [found for found in releases(book) if user in found[3] and found[0] in through
            and any(is_deep(cell) for cell in cells_of(areas[found[:2]]))]


def seen_value(book, user, address):
    """Point 84."""
    return values(book[2]).get(address) if sees(book, user, address) else ("denied",)


def seen_work(before, after, user, address):
    """Point 85: cells are added as long as the property asks for them."""
    fit = {cell for cell in after[2] if sees(before, user, cell) and sees(after, user, cell)}
    edges, found = edges_of(after[2]), set()
    while True:
        more = {cell for cell in fit if cell == address or edges.get(cell, set()) & (found | {address})}
        if more == found:
            return row_by_row(found)
        found = more
