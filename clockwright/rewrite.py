"""Rewriting of graphs: fewer ANDs for the same outputs and next values."""

from clockwright.cuts import cone, cuts, private_part, table_above, use_counts
from clockwright.graph import Graph, compact, copy_ends, first_and, initial_state, moved, negated
from clockwright.table import cofactor, complement, full, support

# The ways in which a table is made from a variable and its two cofactors.
LOW_IS_CONSTANT = 0
HIGH_IS_CONSTANT = 1
OPPOSITE = 2
ANY = 3


def _offers(table, count, index, known):
    """Return the pairs (cost, way) that a variable offers."""
    low = cofactor(table, count, index, 0)
    high = cofactor(table, count, index, 1)
    low_cost = _best(low, count, known)[0]
    high_cost = _best(high, count, known)[0]
    found = [(3 + low_cost + high_cost, ANY)]
    if low in (0, full(count)):
        found.append((1 + high_cost, LOW_IS_CONSTANT))
    if high in (0, full(count)):
        found.append((1 + low_cost, HIGH_IS_CONSTANT))
    if high == complement(low, count):
        found.append((3 + low_cost, OPPOSITE))
    return found


def _best(table, count, known):
    """Return the cost of a table, and the way and the variable that have it.

    The dict known keeps what was found; way and variable are None if the cost is 0.
    """
    key = (count, table)
    if key not in known:
        needed = support(table, count)
        found = [(0, None, None)]
        if len(needed) > 1:
            found = [
                (cost, way, index) for index in needed for cost, way in _offers(table, count, index, known)
            ]
        known[key] = min(found)
    return known[key]


def table_cost(table, count):
    """Return an upper bound for the number of ANDs that compute a table."""
    return _best(table, count, {})[0]


def _simple_literal(table, literals):
    """Return the literal for a table that depends on at most one variable."""
    count = len(literals)
    needed = support(table, count)
    if not needed:
        return 1 if table == full(count) else 0
    # row 0 gives the variable the value 0
    return literals[needed[0]] ^ (table & 1)


def _joined(graph, chosen, other, constant):
    """Return a literal that is the other one where chosen is 1, and the constant where it is 0."""
    if constant == 0:
        return graph.conjunction(chosen, other)
    return graph.disjunction(negated(chosen), other)


def known_tree(graph, table, literals, known):
    """Do what build_tree does; the dict known keeps the costs of tables for further calls."""
    count = len(literals)
    _, way, index = _best(table, count, known)
    if way is None:
        return _simple_literal(table, literals)
    chosen = literals[index]
    low = cofactor(table, count, index, 0)
    high = cofactor(table, count, index, 1)
    if way == LOW_IS_CONSTANT:
        return _joined(graph, chosen, known_tree(graph, high, literals, known), low)
    if way == HIGH_IS_CONSTANT:
        return _joined(graph, negated(chosen), known_tree(graph, low, literals, known), high)
    if way == OPPOSITE:
        return graph.exclusive(chosen, known_tree(graph, low, literals, known))
    one = known_tree(graph, high, literals, known)
    return graph.choice(chosen, one, known_tree(graph, low, literals, known))


def build_tree(graph, table, literals):
    """Add at most as many ANDs as the table costs, and return a literal with its value."""
    return known_tree(graph, table, literals, {})


def gain(graph, node, leaves):
    """Return how many ANDs computing the node anew from the leaves saves at least."""
    ands = cone(graph, node, leaves)
    cost = table_cost(table_above(graph, node, leaves, ands), len(leaves))
    return len(private_part(graph, ands, use_counts(graph))) - cost


class Replacement:
    """A node that is computed anew from leaves, its table, its private cone, and the gain."""

    def __init__(self, node, leaves, table, private, gained):
        self.node = node
        self.leaves = leaves
        self.table = table
        self.private = private
        self.gained = gained


def _replacements(graph, known):
    """Return all replacements with a positive gain, the nodes in ascending order."""
    uses = use_counts(graph)
    found = []
    for node, node_cuts in enumerate(cuts(graph)):
        # the last cut is the node itself, or nothing for node 0, and gains nothing
        for leaves in node_cuts[:-1]:
            ands = cone(graph, node, leaves)
            private = private_part(graph, ands, uses)
            table = table_above(graph, node, leaves, ands)
            gained = len(private) - _best(table, len(leaves), known)[0]
            if gained > 0:
                found.append(Replacement(node, leaves, table, private, gained))
    return found


def is_irreducible(graph):
    """Tell whether no cut of any node has a positive gain."""
    return not _replacements(graph, {})


def _compatible(replacements):
    """Return replacements that can be made together, so that their gains add up.

    No AND is in two private cones, and no leaf is an AND that another one removes.
    """
    private, removed, needed = {}, {}, {}
    chosen = []
    for replacement in sorted(replacements, key=lambda each: -each.gained):
        others = [node for node in replacement.private if node != replacement.node]
        if any([node in private for node in replacement.private]):
            continue
        if any([leaf in removed for leaf in replacement.leaves]) or any([node in needed for node in others]):
            continue
        chosen.append(replacement)
        private.update({node: True for node in replacement.private})
        removed.update({node: True for node in others})
        needed.update({leaf: True for leaf in replacement.leaves})
    return chosen


def _replaced(graph, replacements, known):
    """Build the graph anew with these replacements.

    The private cones are left out, so the new graph is never larger than the old one.
    """
    result = Graph(graph.inputs, initial_state(graph))
    anew = {replacement.node: replacement for replacement in replacements}
    left_out = {node: True for replacement in replacements for node in replacement.private}
    built = [2 * node for node in range(first_and(graph))]
    for a, b in graph.ands:
        node = len(built)
        if node in anew:
            literals = [built[leaf] for leaf in anew[node].leaves]
            built.append(known_tree(result, anew[node].table, literals, known))
        elif node in left_out:
            built.append(None)
        else:
            built.append(result.conjunction(moved(built, a), moved(built, b)))
    copy_ends(result, graph, built)
    return result


def rewritten(graph):
    """Return an irreducible compact graph with the same outputs and next values."""
    known = {}
    best = compact(graph)
    found = _replacements(best, known)
    while found:
        best = compact(_replaced(best, _compatible(found), known))
        found = _replacements(best, known)
    return best
