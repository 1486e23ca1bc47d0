"""Cuts, cones, costs and gains as points C1 to C3, RW1 and RW2 have them, word by word."""

from clockwright.table import cofactor, complement, full, support


def first_and(graph):
    return 1 + graph.inputs + len(graph.registers)


def operands(graph, node):
    a, b = graph.ands[node - first_and(graph)]
    return a // 2, b // 2


def separates(graph, leaves, node):
    if node == 0 or node in leaves:
        return True
    return node >= first_and(graph) and all(separates(graph, leaves, each) for each in operands(graph, node))


def value_above(graph, node, values):
    """The value of a node from the values of the leaves."""
    if node in values or node == 0:
        return values.get(node, 0)
    a, b = graph.ands[node - first_and(graph)]
    return (value_above(graph, a // 2, values) ^ a & 1) & (value_above(graph, b // 2, values) ^ b & 1)


def table_above(graph, node, leaves):
    found = 0
    for row in range(2 ** len(leaves)):
        values = {leaf: row >> index & 1 for index, leaf in enumerate(leaves)}
        found += value_above(graph, node, values) << row
    return found


def all_cuts(graph):
    found = []
    for node in range(graph.node_count()):
        if node == 0:
            found.append([()])
        elif node < first_and(graph):
            found.append([(node,)])
        else:
            one, two = operands(graph, node)
            unions = [set(x) | set(y) for x in found[one] for y in found[two]]
            unions = {tuple(sorted(union)) for union in unions if len(union) <= 4}
            unions = [x for x in unions if not any(set(y) < set(x) for y in unions)]
            found.append(sorted(unions, key=lambda x: (len(x), x))[:7] + [(node,)])
    return found


def cone_of(graph, node, leaves):
    if node in leaves or node < first_and(graph):
        return set()
    return {node}.union(*[cone_of(graph, each, leaves) for each in operands(graph, node)])


def private_cone_of(graph, node, leaves):
    cone = cone_of(graph, node, leaves)
    ends = [literal // 2 for literal in graph.outputs] + [literal // 2 for literal, _ in graph.registers]
    inside = {node} & cone
    for each in sorted(cone - {node}, reverse=True):
        users = [user for user in range(first_and(graph), graph.node_count()) if each in operands(graph, user)]
        if each not in ends and all(user in inside for user in users):
            inside.add(each)
    return inside


def cost_of(table, count):
    needed = support(table, count)
    if len(needed) <= 1:
        return 0
    offers = []
    for index in needed:
        low, high = cofactor(table, count, index, 0), cofactor(table, count, index, 1)
        offers.append(3 + cost_of(low, count) + cost_of(high, count))
        if low in (0, full(count)):
            offers.append(1 + cost_of(high, count))
        if high in (0, full(count)):
            offers.append(1 + cost_of(low, count))
        if high == complement(low, count):
            offers.append(3 + cost_of(low, count))
    return min(offers)


def gain_of(graph, node, leaves):
    return len(private_cone_of(graph, node, leaves)) - cost_of(table_above(graph, node, leaves), len(leaves))


def irreducible(graph):
    return all(gain_of(graph, node, leaves) <= 0 for node, each in enumerate(all_cuts(graph)) for leaves in each)
