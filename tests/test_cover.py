import unittest

from clockwright.cells import read_library
from clockwright.cover import cover, graph_price, parts, roots
from clockwright.graph import Graph, compact, step
from cover_by_the_document import Priced
from drawn_graphs import bits, drawn_graph, fields
from drawn_netlists import complete_library, netlist_fields
from helpers import failure

SMALL = "flop 1 2\ncell inv 10 2 1\ncell nand 1110 3 2 2\ncell andn 0100 4 2 3\n"


def library_of(*lines):
    return read_library("flop 1 1\n" + "".join(f"cell {line}\n" for line in lines))


INV = "inv 10 2 1"
NAND = "nand 1110 3 1 1"
NOR = "nor 1000 5 1 1"
PLAIN = library_of(INV, NAND)


def chain(inputs, flips=()):
    """A graph with the AND of all inputs, from the first one on; some ANDs are inverted on the way."""
    graph = Graph(inputs, [])
    literal = 2
    for index in range(1, inputs):
        literal = graph.conjunction(literal ^ (index in flips), 2 + 2 * index)
    graph.set_outputs([literal])
    return graph


def example():
    graph = Graph(3, [])
    graph.set_outputs([graph.conjunction(graph.conjunction(2, 4) + 1, 6)])
    return graph


class RootsTest(unittest.TestCase):
    def test_the_example(self):
        library = read_library(SMALL)
        graph = example()
        self.assertEqual((roots(graph), parts(graph, 5)), ([5], [[3, 4], [3, 1, 2]]))
        self.assertEqual((graph_price(graph, library), cover(graph, library).area()), (8, 8))

    def test_by_an_output(self):
        graph = Graph(2, [])
        one = graph.conjunction(2, 4)
        two = graph.conjunction(3, 5)
        graph.set_outputs([two ^ 1, 2, 0])
        # the other AND is not needed, so it is not in the compact form
        self.assertEqual((one, two, roots(graph)), (6, 8, [3]))

    def test_by_a_next_literal(self):
        graph = Graph(1, [0, 1])
        inner = graph.conjunction(2, 4)
        graph.set_next(1, graph.conjunction(inner ^ 1, 6) ^ 1)
        self.assertEqual(roots(graph), [5])
        graph.set_next(0, inner ^ 1)
        self.assertEqual(roots(graph), [4, 5])

    def test_by_two_readers(self):
        graph = Graph(3, [])
        inner = graph.conjunction(2, 4)
        one, two = graph.conjunction(inner, 6), graph.conjunction(inner ^ 1, 7)
        graph.set_outputs([graph.conjunction(one ^ 1, two ^ 1)])
        self.assertEqual(roots(graph), [4, 7])

    def test_readers_that_are_not_needed_do_not_count(self):
        graph = Graph(3, [])
        inner = graph.conjunction(2, 4)
        graph.conjunction(inner, 7)
        graph.set_outputs([graph.conjunction(inner, 6)])
        self.assertEqual(roots(graph), [5])
        self.assertEqual(parts(graph, 5), [[3, 4], [3, 1, 2]])

    def test_graphs_without_roots(self):
        graph = Graph(2, [1])
        graph.conjunction(2, 4)
        graph.set_outputs([0, 1, 2, 5, 6])
        self.assertEqual(roots(graph), [])
        self.assertEqual(roots(Graph(0, [])), [])

    def test_the_graph_does_not_change(self):
        graph = drawn_graph(5)
        before = fields(graph)
        library = complete_library(5)
        for call in (roots, lambda one: graph_price(one, library), lambda one: cover(one, library)):
            call(graph)
        self.assertEqual(fields(graph), before)


class PartsTest(unittest.TestCase):
    def test_a_chain(self):
        self.assertEqual(chain(5).ands, [(2, 4), (6, 12), (8, 14), (10, 16)])
        self.assertEqual(parts(chain(5), 9), [[5, 8], [5, 4, 7], [5, 4, 3, 6]])
        self.assertEqual(parts(chain(5), 8), [[4, 7], [4, 3, 6], [4, 3, 1, 2]])

    def test_contributions_stand_in_the_order_of_the_operands(self):
        # the smaller literal is the first operand
        graph = Graph(3, [])
        inner = graph.conjunction(2, 4)
        graph.set_outputs([graph.conjunction(6, inner)])
        self.assertEqual(graph.ands, [(2, 4), (6, 8)])
        self.assertEqual(parts(graph, 5), [[3, 4], [3, 1, 2]])
        self.assertEqual(parts(graph, 4), [[1, 2]])

    def test_at_most_four_nodes(self):
        graph = Graph(8, [])
        level = [2 * node for node in range(1, 9)]
        while len(level) > 1:
            level = [graph.conjunction(a, b) for a, b in zip(level[::2], level[1::2])]
        graph.set_outputs(level)
        self.assertEqual(graph.ands, [(2, 4), (6, 8), (10, 12), (14, 16), (18, 20), (22, 24), (26, 28)])
        self.assertEqual(parts(graph, 15), [
            [13, 14], [9, 10, 14], [13, 11, 12], [1, 2, 10, 14], [9, 3, 4, 14], [9, 10, 11, 12],
            [13, 5, 6, 12], [13, 11, 7, 8]])
        self.assertEqual(parts(graph, 13), [[9, 10], [1, 2, 10], [9, 3, 4], [1, 2, 3, 4]])

    def test_terminals_are_not_opened(self):
        graph = Graph(3, [1])
        inner = graph.conjunction(2, 4)
        graph.set_outputs([graph.conjunction(inner, graph.conjunction(6, 8)), inner])
        self.assertEqual(parts(graph, 7), [[5, 6], [5, 3, 4]])

    def test_a_node_that_occurs_twice(self):
        graph = Graph(2, [])
        one, two = graph.conjunction(2, 5), graph.conjunction(3, 4)
        graph.set_outputs([graph.conjunction(one ^ 1, two ^ 1)])
        self.assertEqual(parts(graph, 5), [[3, 4], [1, 2, 4], [3, 1, 2], [1, 2, 1, 2]])

    def test_equal_parts_stand_once(self):
        graph = Graph(2, [])
        inner = graph.conjunction(2, 4)
        middle = graph.conjunction(2, inner ^ 1)
        graph.set_outputs([graph.conjunction(4, middle ^ 1)])
        found = parts(graph, 5)
        self.assertEqual(found, [[2, 4], [2, 1, 3], [2, 1, 1, 2]])
        self.assertEqual(len(found), len({tuple(part) for part in found}))

    def test_drawn_graphs(self):
        for seed in range(80):
            graph = drawn_graph(seed, inputs=4, ands=16 + seed % 8, outputs=1 + seed % 4)
            priced = Priced(graph, None)
            self.assertEqual(roots(graph), priced.roots())
            for node in range(priced.first, priced.first + len(priced.graph.ands)):
                self.assertEqual(parts(graph, node), priced.parts(node))


class PricesTest(unittest.TestCase):
    def check(self, graph, library, price):
        self.assertEqual(graph_price(graph, library), price)
        netlist = cover(graph, library)
        self.assertEqual(netlist.area(), price)
        self.check_values(graph, netlist)

    def check_values(self, graph, netlist):
        self.assertEqual((netlist.inputs, len(netlist.outputs)), (graph.inputs, len(graph.outputs)))
        self.assertEqual([initial for _, initial in netlist.registers], [initial for _, initial in graph.registers])
        for index, pins in netlist.gates:
            self.assertEqual((type(pins), len(pins)), (tuple, netlist.library.cells[index].pins))
        for row in bits(graph.inputs):
            for state in bits(len(graph.registers)):
                self.assertEqual(netlist.step(row, state), step(graph, row, state))

    def test_one_and(self):
        self.check(chain(2), PLAIN, 5)
        self.check(chain(2), library_of(INV, NAND, "and 0001 4 1 1"), 4)
        self.check(chain(2), library_of(INV, NAND, "and 0001 6 1 1"), 5)
        # a nor of two inverted inputs costs 9, an inverter behind an or of inverted ones 2 more
        self.check(chain(2), library_of(INV, NOR), 9)
        self.check(chain(2), library_of(INV, "or 0111 1 1 1"), 7)

    def test_a_cheap_inverter_is_chosen(self):
        self.check(chain(2), library_of("i 10 9 1", NAND, "j 10 1 1", "k 10 2 1"), 4)

    def test_inverted_inputs(self):
        graph = Graph(2, [])
        graph.set_outputs([graph.conjunction(3, 5)])
        self.check(graph, PLAIN, 9)
        self.check(graph, library_of(INV, NOR), 5)
        self.check(graph, library_of(INV, NAND, "norn 0010 4 1 1"), 6)

    def test_parts_of_three_and_four_nodes(self):
        self.check(chain(3), PLAIN, 10)
        self.check(chain(3), library_of(INV, NAND, "nand3 11111110 4 1 1 1"), 6)
        self.check(chain(4), PLAIN, 15)
        self.check(chain(4), library_of(INV, NAND, "nand4 1111111111111110 9 1 1 1 1"), 11)
        self.check(chain(4), library_of(INV, NAND, "nand4 1111111111111110 9 1 1 1 1", "nand3 11111110 3 1 1 1"), 10)
        self.check(chain(5), library_of(INV, NAND, "and4 0000000000000001 6 1 1 1 1"), 11)
        self.check(chain(7), library_of(INV, NAND, "and4 0000000000000001 6 1 1 1 1"), 12)

    def test_a_node_that_occurs_twice(self):
        graph = Graph(2, [])
        graph.set_outputs([graph.exclusive(2, 4)])
        # the root is the negation, and the output has an inverter of its own
        self.check(graph, library_of(INV, NAND, "xnor 1001 7 1 1"), 9)
        self.check(graph, library_of(INV, NAND, "xor 0110 7 1 1"), 11)
        # two inverted inputs, three gates, and two inverters behind them
        self.check(graph, PLAIN, 17)

    def test_tables_with_a_smaller_support(self):
        graph = Graph(2, [])
        inner = graph.conjunction(2, 4)
        graph.set_outputs([graph.conjunction(2, graph.conjunction(2, inner ^ 1) ^ 1)])
        # this is the AND of the inputs
        self.check(graph, PLAIN, 5)
        graph = Graph(2, [])
        one, two = graph.conjunction(2, 4), graph.conjunction(2, 5)
        graph.set_outputs([graph.conjunction(one ^ 1, two ^ 1)])
        # this is the negation of the first input
        self.check(graph, PLAIN, 2)
        graph.set_outputs([graph.conjunction(one ^ 1, two ^ 1) ^ 1])
        self.check(graph, PLAIN, 4)

    def test_tables_that_are_constant(self):
        graph = Graph(2, [])
        never = graph.conjunction(graph.conjunction(2, 4), graph.conjunction(3, 4))
        graph.set_outputs([never])
        self.check(graph, PLAIN, 0)
        # the root costs nothing, but the negated output has an inverter
        graph.set_outputs([never ^ 1, never])
        self.check(graph, PLAIN, 2)
        graph = Graph(3, [])
        never = graph.conjunction(graph.conjunction(2, 4), graph.conjunction(3, 4))
        graph.set_outputs([graph.conjunction(never, 6)])
        self.assertEqual(len(compact(graph).ands), 4)
        # no part of four nodes shows that the output is constant, but the pin of its gate is
        self.check(graph, PLAIN, 5)
        graph.set_outputs([graph.conjunction(never ^ 1, 6)])
        self.check(graph, PLAIN, 5)

    def test_roots_are_terminals_of_other_trees(self):
        graph = Graph(3, [])
        inner = graph.conjunction(2, 4)
        graph.set_outputs([graph.conjunction(inner, 6), inner])
        self.check(graph, library_of(INV, NAND, "nand3 11111110 4 1 1 1"), 10)
        graph.set_outputs([graph.conjunction(inner ^ 1, 6), inner])
        self.check(graph, PLAIN, 5 + 2 + 5)
        # each reader has an inverter of its own
        graph.set_outputs([graph.conjunction(inner ^ 1, 6), graph.conjunction(inner ^ 1, 7), inner])
        self.check(graph, PLAIN, 5 + 7 + 9)

    def test_outputs_and_next_literals(self):
        graph = Graph(1, [0, 1, 0])
        graph.set_next(0, 3)
        graph.set_next(1, 5)
        graph.set_next(2, 0)
        graph.set_outputs([0, 1, 2, 3, 3, 4, 5])
        self.check(graph, PLAIN, 5 * 2)
        graph = Graph(2, [1])
        both = graph.conjunction(2, 4)
        graph.set_next(0, both ^ 1)
        graph.set_outputs([both ^ 1, both, both ^ 1, 1, 0])
        self.check(graph, PLAIN, 5 + 3 * 2)

    def test_registers_that_keep_their_values(self):
        self.check(Graph(0, [1, 0]), PLAIN, 0)
        self.check(Graph(0, []), PLAIN, 0)

    def test_the_price_of_a_root_may_use_its_negation(self):
        graph = chain(3, flips=(2,))
        # the negation of the whole: a nand whose pin is the nand of the others
        self.check(graph, PLAIN, 8)
        graph.set_outputs([graph.outputs[0] ^ 1])
        self.check(graph, PLAIN, 10)

    def test_only_the_needed_part_counts(self):
        graph = chain(2)
        graph.conjunction(3, 5)
        self.check(graph, PLAIN, 5)

    def test_long_chains(self):
        for inputs in (400, 401):
            graph = chain(inputs, flips=range(0, inputs, 3))
            netlist = cover(graph, PLAIN)
            self.assertEqual(netlist.area(), graph_price(graph, PLAIN))
            for first in (0, 1):
                row = [first] * inputs
                self.assertEqual(netlist.step(row, []), step(graph, row, []))
        graph = Graph(1, [0] * 1900)
        literal = 2
        for index in range(1900):
            literal = graph.conjunction(literal, graph.register_literal(index))
        graph.set_outputs([literal])
        self.assertEqual((graph_price(graph, PLAIN), cover(graph, PLAIN).area()), (9500, 9500))

    def test_drawn_graphs(self):
        for seed in range(120):
            graph = drawn_graph(seed, inputs=4, ands=10 + seed % 12, outputs=1 + seed % 4)
            library = complete_library(seed, cells=1 + seed % 9)
            self.check(graph, library, Priced(graph, library).graph_price())

    def test_drawn_graphs_and_libraries_with_few_cells(self):
        for seed in range(60):
            graph = drawn_graph(seed, inputs=3, ands=20, outputs=2)
            library = complete_library(seed, cells=seed % 3, most_pins=2)
            self.check(graph, library, Priced(graph, library).graph_price())

    def test_the_netlist_has_the_library(self):
        netlist = cover(chain(2), PLAIN)
        self.assertIs(netlist.library, PLAIN)
        self.assertEqual(netlist_fields(netlist)[0], 2)


class ErrorsTest(unittest.TestCase):
    def check(self, lines, need):
        library = library_of(*lines)
        for graph in (chain(3), Graph(0, []), Graph(2, [1])):
            for call in (graph_price, cover):
                expected = None if need is None else ("Uncovered", need)
                self.assertEqual(failure(call, graph, library), expected)

    def test_no_inverter(self):
        self.check([NAND], "inverter")
        self.check([NAND, "buf 01 1 1", "not2 1010 1 1 1"], "inverter")

    def test_no_gate(self):
        self.check([INV], "gate")
        self.check([INV, "xor 0110 1 1 1", "and3 00000001 1 1 1 1", "b 01 1 1"], "gate")

    def test_neither(self):
        self.check([], "inverter")
        self.check(["xor 0110 1 1 1"], "inverter")

    def test_both(self):
        for values in ("0001", "0010", "0100", "1000", "1110", "1101", "1011", "0111"):
            self.check([INV, f"gate {values} 1 1 1"], None)


if __name__ == "__main__":
    unittest.main()
