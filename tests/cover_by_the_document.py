"""Points M2 to M5 read word by word, for small graphs."""

import itertools

from clockwright.graph import compact


class Priced:
    """The prices of the compact form of a graph; an infinite price is None."""

    def __init__(self, graph, library):
        self.graph = compact(graph)
        self.first = 1 + self.graph.inputs + len(self.graph.registers)
        self.cells = library.cells if library else []
        self.inverter = min([cell.area for cell in self.cells if (cell.pins, cell.table) == (1, 1)], default=None)
        self.kept = {}

    def operands(self, node):
        return [literal // 2 for literal in self.graph.ands[node - self.first]]

    def roots(self):
        ands = range(self.first, self.first + len(self.graph.ands))
        ends = [literal // 2 for literal in self.graph.outputs] + [pair[0] // 2 for pair in self.graph.registers]
        readers = [node for reader in ands for node in self.operands(reader)]
        return [node for node in ands if node in ends or readers.count(node) >= 2]

    def is_terminal(self, node):
        return 0 < node < self.first or node in self.roots()

    def all_parts(self, node):
        """The parts without their upper bound of four nodes; they grow fast."""
        choices = []
        for operand in self.operands(node):
            inner = [] if self.is_terminal(operand) else self.all_parts(operand)
            choices.append([[operand]] + [part for part in inner if len(part) <= 4])
        return [one + two for one in choices[0] for two in choices[1]]

    def parts(self, node):
        found = []
        for part in self.all_parts(node):
            if 2 <= len(part) <= 4 and part not in found:
                found.append(part)
        return sorted(found, key=lambda part: (len(part), part))

    def value(self, node, known):
        if node in known:
            return known[node]
        a, b = self.graph.ands[node - self.first]
        return (self.value(a // 2, known) ^ (a & 1)) & (self.value(b // 2, known) ^ (b & 1))

    def function(self, node, part):
        """The value of a node for each tuple of values of the different nodes of a part, and its support."""
        nodes = sorted(set(part))
        table = {row: self.value(node, dict(zip(nodes, row))) for row in itertools.product((0, 1), repeat=len(nodes))}

        def flipped(row, at):
            return row[:at] + (1 - row[at],) + row[at + 1:]

        support = [at for at in range(len(nodes)) if any(table[row] != table[flipped(row, at)] for row in table)]
        small = {tuple(row[at] for at in support): bit for row, bit in table.items()}
        return [nodes[at] for at in support], small

    def price(self, node, sign):
        """The price of a node as those above it see it."""
        if self.is_terminal(node):
            return self.inverter if sign else 0
        return self.own_price(node, sign)

    def own_price(self, node, sign):
        own, other = self.direct(node, sign), self.direct(node, 1 - sign)
        return min(price for price in (own, None if other is None else other + self.inverter) if price is not None)

    def direct(self, node, sign):
        if (node, sign) not in self.kept:
            offers = [offer for part in self.parts(node) for offer in self.offers(node, part, sign)]
            self.kept[node, sign] = min(offers, default=None)
        return self.kept[node, sign]

    def offers(self, node, part, sign):
        support, table = self.function(node, part)
        table = {row: bit ^ sign for row, bit in table.items()}
        if not support:
            return [0]
        if len(support) == 1:
            return [self.price(support[0], table[0,])]
        found = []
        for cell in self.cells:
            for order in itertools.permutations(range(len(support)), cell.pins):
                for signs in itertools.product((0, 1), repeat=cell.pins):
                    if all(cell.output([row[at] ^ flip for at, flip in zip(order, signs)]) == bit
                           for row, bit in table.items()):
                        found.append(cell.area + sum(self.price(support[at], flip) for at, flip in zip(order, signs)))
        return found

    def graph_price(self):
        ends = self.graph.outputs + [literal for literal, _ in self.graph.registers]
        negations = [literal for literal in ends if literal % 2 == 1 and literal != 1]
        return sum(self.own_price(root, 0) for root in self.roots()) + self.inverter * len(negations)
