"""Covering of graphs with the cells of a library, at the least area."""

from clockwright.cells import pin_ways
from clockwright.cuts import cone, table_above
from clockwright.errors import Uncovered
from clockwright.graph import compact, first_and, initial_state
from clockwright.netlist import Netlist
from clockwright.table import complement, connect, full, shrink

MOST_NODES = 4


def _end_literals(graph):
    """Return the next literals of the registers, followed by the outputs."""
    return [literal for literal, _ in graph.registers] + graph.outputs


def _are_roots(graph):
    """Return for each node of a compact graph whether it is a root."""
    first = first_and(graph)
    readers = [0] * graph.node_count()
    ends = [False] * graph.node_count()
    for pair in graph.ands:
        for literal in pair:
            readers[literal // 2] += 1
    for literal in _end_literals(graph):
        ends[literal // 2] = True
    return [node >= first and (ends[node] or readers[node] > 1) for node in range(len(ends))]


def roots(graph):
    """Return the roots of the compact form, in ascending order."""
    return [node for node, is_root in enumerate(_are_roots(compact(graph))) if is_root]


def _contributions(graph, are_roots, node, most):
    """Return what an operand node contributes, in lists of at most so many nodes."""
    found = [[node]]
    if node >= first_and(graph) and not are_roots[node]:
        found.extend(_parts(graph, are_roots, node, most))
    return found


def _parts(graph, are_roots, node, most):
    """Return the parts of an AND with at most so many nodes."""
    if most < 2:
        return []
    a, b = graph.ands[node - first_and(graph)]
    return [
        one + two
        for one in _contributions(graph, are_roots, a // 2, most - 1)
        for two in _contributions(graph, are_roots, b // 2, most - len(one))
    ]


def _distinct_parts(graph, are_roots, node):
    found = {tuple(part): True for part in _parts(graph, are_roots, node, MOST_NODES)}
    return [list(part) for _, part in sorted([(len(part), part) for part in found])]


def parts(graph, node):
    """Return all parts of an AND of the compact form, by length and then as lists."""
    small = compact(graph)
    return _distinct_parts(small, _are_roots(small), node)


def _signs(way):
    """Return for each variable the sign with which a way connects it, as the lowest bit of its literal."""
    found = [0] * len(way)
    for literal in way:
        found[literal // 2] = literal & 1
    return tuple(found)


def _cheapest_bindings(library):
    """Return a dict from pairs (number of variables, table) to lists of triples (area, cell, literals).

    Of all bindings that connect the same variables with the same signs, one with the smallest area is there.
    """
    found = {}
    for index, cell in enumerate(library.cells):
        for way in pin_ways(cell.pins):
            offers = found.setdefault((cell.pins, connect(cell.table, way, cell.pins)), {})
            signs = _signs(way)
            if signs not in offers or cell.area < offers[signs][0]:
                offers[signs] = (cell.area, index, way)
    return {key: list(offers.values()) for key, offers in found.items()}


class Offer:
    """A way to compute a literal: a cell whose pins are literals of the graph.

    If the cell is None, the literal equals the only one of the list, which may be constant.
    """

    def __init__(self, price, cell, literals):
        self.price = price
        self.cell = cell
        self.literals = literals


class Prices:
    """What the literals of a compact graph cost.

    The list prices has an entry for each literal, as it is seen from the ANDs above its node; the list direct has
    for each node its best direct offers, None for an AND with a sign that no cell serves.
    """

    def __init__(self, graph, library):
        self.graph = graph
        self.inverter_cell = library.inverter()
        if not library.is_complete():
            raise Uncovered("gate")
        self.inverter_area = library.cells[self.inverter_cell].area
        self.are_roots = _are_roots(graph)
        self.prices = []
        self.direct = []
        bindings = _cheapest_bindings(library)
        for node, is_root in enumerate(self.are_roots):
            if node < first_and(graph):
                self.direct.append((None, None))
            else:
                self.direct.append(self._direct_offers(node, bindings))
            is_terminal = is_root or node < first_and(graph)
            for literal in (2 * node, 2 * node + 1):
                self.prices.append(self._terminal_price(literal) if is_terminal else self.own_price(literal))

    def _terminal_price(self, literal):
        return self.inverter_area * (literal & 1)

    def is_inverted(self, literal):
        """Tell whether a literal of an AND is best computed as the inverted other one."""
        own = self.direct[literal // 2][literal & 1]
        other = self.direct[literal // 2][1 - (literal & 1)]
        if own is None or other is None:
            return own is None
        return self.inverter_area + other.price < own.price

    def own_price(self, literal):
        """Return what computing a literal of an AND costs, also if it is a root."""
        if self.is_inverted(literal):
            return self.inverter_area + self.direct[literal // 2][1 - (literal & 1)].price
        return self.direct[literal // 2][literal & 1].price

    def _direct_offers(self, node, bindings):
        """Return the best direct offers for the plain and the negated value of an AND."""
        plain = []
        negated = []
        for part in _distinct_parts(self.graph, self.are_roots, node):
            leaves = sorted(set(part))
            table = table_above(self.graph, node, leaves, cone(self.graph, node, leaves))
            needed, small = shrink(table, len(leaves))
            nodes = [leaves[index] for index in needed]
            plain.extend(self._offers(nodes, small, bindings))
            negated.extend(self._offers(nodes, complement(small, len(nodes)), bindings))
        return (_cheapest(plain), _cheapest(negated))

    def _offers(self, nodes, table, bindings):
        """Return the offers for a table over nodes, each of which it depends on."""
        if not nodes:
            return [Offer(0, None, [1 if table == full(0) else 0])]
        if len(nodes) == 1:
            # row 0 gives the node the value 0
            literal = 2 * nodes[0] + (table & 1)
            return [Offer(self.prices[literal], None, [literal])]
        found = []
        for area, cell, way in bindings.get((len(nodes), table), []):
            literals = [2 * nodes[literal // 2] + (literal & 1) for literal in way]
            found.append(Offer(area + sum([self.prices[literal] for literal in literals]), cell, literals))
        return found


def _cheapest(offers):
    """Return the first offer with the least price, or None if there is none."""
    return min(offers, key=lambda offer: offer.price) if offers else None


def _is_negation(literal):
    """Tell whether a literal is the negation of a node other than node 0."""
    return literal & 1 == 1 and literal != 1


def graph_price(graph, library):
    """Return the sum of what the roots cost, and of the inverters at outputs and next literals."""
    prices = Prices(compact(graph), library)
    total = sum([prices.own_price(2 * node) for node, is_root in enumerate(prices.are_roots) if is_root])
    inverted = [literal for literal in _end_literals(prices.graph) if _is_negation(literal)]
    return total + len(inverted) * prices.inverter_area


def _wanted_literals(prices):
    """Return a dict from the ANDs that are computed to the literals that are needed of them.

    An AND that is no root has one reader alone, so one of its literals suffices.
    """
    found = {}
    for node in reversed(list(range(first_and(prices.graph), prices.graph.node_count()))):
        if prices.are_roots[node]:
            found[node] = 2 * node
        if node in found:
            for literal in _offer_of(prices, found[node]).literals:
                found[literal // 2] = literal
    return found


def _offer_of(prices, literal):
    """Return the direct offer with which a literal of an AND is computed, if inverted behind it."""
    chosen = literal ^ 1 if prices.is_inverted(literal) else literal
    return prices.direct[chosen // 2][chosen & 1]


class Placing:
    """The gates of a netlist that is being made, and the nets of the literals that are computed."""

    def __init__(self, prices):
        self.prices = prices
        first = first_and(prices.graph)
        self.gates = []
        # net 0 is node 0, and the net of each input and register is the node's number plus 1
        self.nets = {2 * node: node + 1 for node in range(1, first)}
        self.nets[0] = 0
        self.nets[1] = 1
        self._first = first + 1

    def _place(self, cell, pins):
        self.gates.append((cell, tuple(pins)))
        return self._first + len(self.gates) - 1

    def inverted(self, net):
        """Place an inverter, and return its net."""
        return self._place(self.prices.inverter_cell, [net])

    def net_of(self, literal):
        """Return the net of a literal, with an inverter of its own where its node has another one."""
        if literal in self.nets:
            return self.nets[literal]
        return self.inverted(self.nets[literal ^ 1])

    def compute(self, literal):
        """Place the gates for a literal of an AND, behind those that they read."""
        offer = _offer_of(self.prices, literal)
        pins = [self.net_of(pin) for pin in offer.literals]
        net = pins[0] if offer.cell is None else self._place(offer.cell, pins)
        self.nets[literal] = self.inverted(net) if self.prices.is_inverted(literal) else net


def cover(graph, library):
    """Return a netlist with the outputs and next states of a graph, whose area is the graph's price."""
    prices = Prices(compact(graph), library)
    placing = Placing(prices)
    wanted = _wanted_literals(prices)
    for node in sorted(wanted):
        if node >= first_and(prices.graph):
            placing.compute(wanted[node])
    nexts = [placing.net_of(literal) for literal, _ in prices.graph.registers]
    outputs = [placing.net_of(literal) for literal in prices.graph.outputs]
    registers = list(zip(nexts, initial_state(prices.graph)))
    return Netlist(library, prices.graph.inputs, registers, placing.gates, outputs)
