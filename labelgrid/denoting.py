"""The values of all addresses, from their entries."""

from labelgrid.addresses import cells_of
from labelgrid.circles import sorted_out
from labelgrid.entries import parse_entry
from labelgrid.evaluating import evaluate
from labelgrid.functions import apply_function
from labelgrid.graph import Graph
from labelgrid.uses import used_ranges

CYCLE = ("error", "cycle")


def graph_of(entries):
    """Return the graph of the formulas of entries."""
    return graph_of_parsed({address: parse_entry(entries[address]) for address in entries})


def graph_of_parsed(parsed):
    """Return the graph of the formulas of entries that were read."""
    graph = Graph()
    for address in parsed:
        kind, what = parsed[address]
        if kind == "formula":
            graph.put(address, used_ranges(what))
    return graph


def keep_value(values, address, value):
    """Put a value into a dict that has those that are not None."""
    if value is None:
        values.pop(address, None)
    else:
        values[address] = value


def denote(entries):
    """Return a dict from the addresses whose values are not None to their values."""
    parsed = {address: parse_entry(entries[address]) for address in entries}
    graph = graph_of_parsed(parsed)
    order, stuck = sorted_out(graph, graph.formulas(), [])
    values = {address: parsed[address][1] for address in parsed if parsed[address][0] == "value"}
    for address in stuck:
        values[address] = CYCLE
    for address in order:
        keep_value(values, address, evaluate(parsed[address][1], values))
    return values


def released_value(function, area, values):
    """Return the value of a call of a released function over a range, of which a circular address makes it circular."""
    many = [values.get(address) for address in cells_of(area)]
    return CYCLE if CYCLE in many else apply_function(function, [("many", many)])
