"""Cuts of the nodes of a graph, their tables, and the ANDs above them."""

from clockwright.errors import NotACut
from clockwright.graph import first_and
from clockwright.table import complement, variable

MOST_LEAVES = 4
MOST_CUTS = 8


def _unions(one, two):
    """Return the unions of a cut of each list that are small enough, each once."""
    found = {}
    for first in one:
        for second in two:
            union = tuple(sorted(set(first + second)))
            if len(union) <= MOST_LEAVES:
                found[union] = True
    return list(found)


def _contains(leaves, others):
    return all([leaf in leaves for leaf in others])


def _best_unions(unions):
    """Return the first unions that contain no other one, by length and then as tuples."""
    kept = []
    # a union that another one makes superfluous comes behind it
    for _, leaves in sorted([(len(union), union) for union in unions]):
        if len(kept) < MOST_CUTS - 1 and not any([_contains(leaves, other) for other in kept]):
            kept.append(leaves)
    return kept


def cuts(graph):
    """Return the list of the cuts of each node."""
    first = first_and(graph)
    found = [[()]]
    for node in range(1, first):
        found.append([(node,)])
    for index, (a, b) in enumerate(graph.ands):
        unions = _unions(found[a // 2], found[b // 2])
        found.append(_best_unions(unions) + [(first + index,)])
    return found


def cone(graph, node, leaves):
    """Return the ANDs that are needed to compute a node from the leaves, in ascending order."""
    first = first_and(graph)
    found = {}
    # a list instead of recursion, because graphs may be deep
    open_nodes = [node]
    while open_nodes:
        here = open_nodes.pop()
        if here == 0 or here in leaves or here in found:
            continue
        if here < first:
            raise NotACut(node)
        found[here] = True
        a, b = graph.ands[here - first]
        open_nodes.extend([a // 2, b // 2])
    return sorted(found)


def _operand_table(tables, literal, count):
    table = tables[literal // 2]
    return complement(table, count) if literal & 1 else table


def table_above(graph, node, leaves, ands):
    """Return the table of a node over the leaves, from the ANDs of its cone."""
    count = len(leaves)
    first = first_and(graph)
    tables = {0: 0}
    for index, leaf in enumerate(leaves):
        tables[leaf] = variable(index, count)
    for here in ands:
        a, b = graph.ands[here - first]
        tables[here] = _operand_table(tables, a, count) & _operand_table(tables, b, count)
    return tables[node]


def cut_table(graph, node, leaves):
    """Return the table of a node over leaves that separate it."""
    return table_above(graph, node, leaves, cone(graph, node, leaves))


def use_counts(graph):
    """Return for each node how many operands, outputs and next literals refer to it."""
    found = [0] * graph.node_count()
    for pair in graph.ands:
        for literal in pair:
            found[literal // 2] += 1
    for literal in graph.outputs:
        found[literal // 2] += 1
    for literal, _ in graph.registers:
        found[literal // 2] += 1
    return found


def private_part(graph, ands, uses):
    """Return the private cone, in ascending order, from the ANDs of a cone and all use counts."""
    first = first_and(graph)
    # how many operands of the ANDs that are in refer to a node
    inside = {}
    found = []
    for here in reversed(ands):
        if not found or inside.get(here) == uses[here]:
            found.append(here)
            for literal in graph.ands[here - first]:
                inside[literal // 2] = inside.get(literal // 2, 0) + 1
    return sorted(found)


def private_cone(graph, node, leaves):
    """Return the ANDs that become useless when a node is computed from the leaves in another way."""
    return private_part(graph, cone(graph, node, leaves), use_counts(graph))
