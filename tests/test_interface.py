"""The interface of the document: names, arguments and methods, each defined where the document lists it."""

import ast
import pathlib
import unittest

PACKAGE = pathlib.Path(__file__).resolve().parent.parent / "labelgrid"
FUNCTIONS = """
edits: empty_book(users) entry_of(book,address) apply_edit(book,edit) apply_edits(book,edits) back_from(book,edit) difference(book,other)
merging: merged(base,one,other) touched(base,book)
numbers: rounded(a,b) add(a,b) times(a,b) over(a,b) to_places(n,places) show_number(n) parse_number(text)
addresses: show_address(address) show_range(area) parse_address(text) parse_range(text) place_key(address) inside(address,area)
addresses: cells_of(area) size_of(area) common(area,other) without(area,other) without_all(area,others) disjoint(areas) covered(area,areas)
addresses: count_of(areas)
words: tokens_of(text,at)
trees: parse_formula(text,at) show_formula(tree) parts_of(tree) calls_of(tree) moved(tree,by)
entries: parse_entry(text) show_entry(parsed) canonical(text)
functions: apply_operator(sign,a,b) negated(value) apply_function(name,args)
evaluating: evaluate(tree,values) entry_value(parsed,values)
shifting: inserted(book,kind,at,count) deleted(book,kind,at,count)
names: resolved(text,names) named(text,names) table_names(name,area,values) moved_names(names,shift)
uses: range_of(part) uses_of(tree) used_ranges(tree)
circles: components(graph) circular(graph) circle_of(graph,address) circle_right(graph,circle) work_order(graph,cells)
denoting: graph_of(entries) denote(entries)
rights: rule_at(rules,address) allowed(rules,right,address) may(rules,user,right,address) parts_by_rule(rules,area)
rights: may_all(rules,user,right,area) refused_parts(rules,user,right,area) allowed_all(rules,right,area,users)
grants: is_live(rules,grant) live_grants(rules,grants) releasing(rules,grants,function,area) released_to(rules,grants,function,area)
grants: calls_at(entries,address) released_calls(book)
flow: hidden_uses(book,user,address) graph_for(book,user) hidden_cells(book,user) sees(book,user,address) label_of(book,address) labels(book)
sources: addresses_below(entries,address) sources_of(book,address) borne_by(book,user)
reasons: hidden_way(book,user,address) way_right(book,user,address,way) open_cells(book,user,address) open_right(book,user,address,cells)
reasons: blocking(book,user,address)
openings: opening(book,user,address) seen_if(book,user,address,calls) opening_right(book,user,address,calls,ways)
trust: holds(rules,values,endorsement) endorsers(rules,values,endorsements) resting_on(book,endorsements,address)
trust: trusted_sources(book,endorsements,address) trust_way(book,endorsements,address,user)
trust: trust_way_right(book,endorsements,address,user,way)
queries: value_key(value) columns_of(query) cells_in(query,row) ask(query,values,seen)
witnesses: value_with(book,address,cell,text) witness(book,user,address) witness_right(book,user,address,found)
asking: ledger_right(budgets,ledger)
visible: seen_value(book,user,address) seen_work(before,after,user,address)
releases: releases(book) release_log(book,journal) log_right(book,journal,log) cuts(book,user,address)
low: told_values(book,user) alike(user,book,other) secret(user,book,operation) compare(user,books,operations)
script: run_script(text)
"""
CLASSES = """
undoing: History(book) do(user,edit) undo(user) redo(user) standing() .book
timeline: Timeline(book) add(edit) length() book_at(count) changes_of(address) forget(count) .book
errors: CommandError(line) .line
errors: EntryError(at) .at
errors: EditError(place) .place
shifting: Shift(grows,kind,at,count) address(address) area(area) tree(tree)
graph: Graph() put(address,ranges) remove(address) formulas() uses(address,other) users_of(area) used_formulas(address) reaching(areas)
graph: Graph() reached(address) .ranges
calc: Calc(entries) put_all(texts) put(address,text) clear(area) value(address) is_circular(address) .entries .results .graph .work
flow: Flow(book) sees(user,address) label(address) enter(book,addresses) turn_rules(book,areas) .book
kept: Kept(book,endorsements) sources(address) trusted_of(address) enter(book,addresses) endorse(endorsements) .book .endorsements
queries: QueryView(query,values,seen) turn(values,seen,addresses) answer() .work
asking: Counter(desk) perform(user,deed) budgets() ledger()
desk: Desk(book) perform(user,deed) journal() .book
mirrors: Station(desk) watch(user,area) picture(user) send(user) acknowledge(user,number)
mirrors: Mirror() receive(message) picture() .number
"""
VALUES = {"numbers": ["UNIT", "MOST"], "addresses": ["SHEET"], "trees": ["RELEASED"], "rights": ["RIGHTS"], "witnesses": ["CHOICES"]}


def tree_of(module):
    return ast.parse((PACKAGE / f"{module}.py").read_text())


def signature(node, first=0):
    """The name and arguments of a definition, as in the tables."""
    assert not (node.args.vararg or node.args.kwarg or node.args.kwonlyargs or node.args.defaults)
    return f"{node.name}({','.join(arg.arg for arg in node.args.args[first:])})"


def lines(table):
    for line in table.strip().splitlines():
        module, _, rest = line.partition(": ")
        yield module, rest.split()


class InterfaceTest(unittest.TestCase):
    def test_functions(self):
        for module, wanted in lines(FUNCTIONS):
            found = [signature(node) for node in tree_of(module).body if isinstance(node, ast.FunctionDef)]
            self.assertEqual([one for one in wanted if one not in found], [], module)

    def test_classes(self):
        for module, (made, *wanted) in lines(CLASSES):
            name = made.partition("(")[0]
            node = [one for one in tree_of(module).body if isinstance(one, ast.ClassDef) and one.name == name][0]
            methods = {one.name: one for one in node.body if isinstance(one, ast.FunctionDef)}
            self.assertEqual(signature(methods["__init__"], 1).replace("__init__", name), made)
            assigned = [part.attr for part in ast.walk(methods["__init__"]) if isinstance(part, ast.Attribute) and isinstance(part.ctx, ast.Store)]
            found = [signature(one, 1) for one in methods.values()] + [f".{attribute}" for attribute in assigned]
            self.assertEqual([one for one in wanted if one not in found], [], made)

    def test_values(self):
        for module, wanted in VALUES.items():
            found = [node.targets[0].id for node in tree_of(module).body if isinstance(node, ast.Assign)]
            self.assertEqual([one for one in wanted if one not in found], [], module)


if __name__ == "__main__":
    unittest.main()
