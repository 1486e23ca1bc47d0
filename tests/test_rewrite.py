import random
import unittest

import cuts_by_the_document as document
from clockwright.circuits import multiply_bits
from clockwright.cuts import cuts
from clockwright.flat import design_of
from clockwright.graph import Graph, compact, run_resets
from clockwright.rewrite import build_tree, gain, is_irreducible, rewritten, table_cost
from clockwright.synth import synthesize
from clockwright.table import full, shrink, variable
from drawn_designs import DrawnDesign
from drawn_graphs import behaviour, bits, drawn_graph, fields
from helpers import failure


def tables():
    """All tables of up to three variables, and drawn ones of four."""
    found = [(table, count) for count in range(4) for table in range(2 ** 2 ** count)]
    drawn = random.Random(7)
    return found + [(drawn.randrange(2 ** 16), 4) for _ in range(100)]


def xor_graph():
    """An exclusive or that is built of four ANDs in another way."""
    graph = Graph(2, [])
    both = graph.conjunction(2, 4)
    one, two = graph.conjunction(2, both + 1), graph.conjunction(4, both + 1)
    graph.set_outputs([graph.conjunction(one + 1, two + 1) + 1])
    return graph


class CostsTest(unittest.TestCase):
    def test_the_examples(self):
        self.assertEqual((table_cost(6, 2), table_cost(232, 3), table_cost(14, 2)), (3, 5, 1))

    def test_constants_and_single_variables(self):
        for count in range(5):
            self.assertEqual((table_cost(0, count), table_cost(full(count), count)), (0, 0))
            for index in range(count):
                table = variable(index, count)
                self.assertEqual((table_cost(table, count), table_cost(full(count) - table, count)), (0, 0))

    def test_each_offer(self):
        # a cofactor that is constant, for 0 and for 1
        for table in (8, 2, 4, 1, 7, 11, 13, 14):
            self.assertEqual(table_cost(table, 2), 1)
        # cofactors that are negations of each other
        self.assertEqual((table_cost(9, 2), table_cost(0b10010110, 3), table_cost(0x6996, 4)), (3, 6, 9))
        # a mux of three variables has no other offer
        self.assertEqual(table_cost(0b11001010, 3), 3)
        self.assertEqual((table_cost(0x8000, 4), table_cost(0xFFFE, 4)), (3, 3))

    def test_by_the_document(self):
        for table, count in tables():
            self.assertEqual(table_cost(table, count), document.cost_of(table, count), (table, count))

    def test_variables_that_do_not_matter(self):
        for table, count in tables():
            needed, small = shrink(table, count)
            self.assertEqual(table_cost(table, count), table_cost(small, len(needed)))


class TreesTest(unittest.TestCase):
    def check(self, table, literals, inputs):
        graph = Graph(inputs, [])
        given = list(literals)
        literal = build_tree(graph, table, literals)
        self.assertEqual(literals, given)
        self.assertLessEqual(len(graph.ands), table_cost(table, len(literals)))
        self.assertEqual((graph.inputs, graph.registers, graph.outputs), (inputs, [], []))
        graph.set_outputs([literal])
        for row, (outputs, _) in zip(bits(inputs), behaviour(graph)):
            values = [([0] + row)[each // 2] ^ each & 1 for each in literals]
            wanted = table >> sum(bit << index for index, bit in enumerate(values)) & 1
            self.assertEqual(outputs, [wanted], (table, literals))

    def test_values_and_the_number_of_ands(self):
        for table, count in tables():
            self.check(table, [2 * (index + 1) for index in range(count)], count)

    def test_inverted_literals(self):
        for table, count in tables():
            self.check(table, [2 * (count - index) + 1 for index in range(count)], count)

    def test_constants_and_equal_literals(self):
        drawn = random.Random(8)
        for table, count in tables():
            self.check(table, [drawn.randrange(8) for _ in range(count)], 3)

    def test_no_variables(self):
        graph = Graph(1, [])
        self.assertEqual((build_tree(graph, 0, []), build_tree(graph, 1, [])), (0, 1))

    def test_what_is_there_stays(self):
        graph = Graph(3, [1])
        graph.set_outputs([graph.conjunction(2, 4)])
        graph.set_next(0, 3)
        literal = build_tree(graph, 0b10000000, [2, 4, 6])
        self.assertEqual((graph.ands[0], graph.outputs, graph.registers), ((2, 4), [10], [(3, 1)]))
        self.assertLessEqual(len(graph.ands), 3)
        self.assertGreater(literal, 10)

    def test_equal_calls(self):
        one, two = Graph(4, []), Graph(4, [])
        for table in range(0, 65536, 777):
            self.assertEqual(build_tree(one, table, [2, 4, 6, 8]), build_tree(two, table, [2, 4, 6, 8]))
        self.assertEqual(fields(one), fields(two))

    def test_a_graph_that_becomes_too_large(self):
        graph = Graph(3998, [])
        self.assertEqual(failure(build_tree, graph, 6, [2, 4]), ("Unbounded", "graph"))
        self.assertEqual(build_tree(graph, 6, [2, 1]), 3)


class GainsTest(unittest.TestCase):
    def test_a_positive_gain(self):
        graph = xor_graph()
        self.assertEqual(gain(graph, 6, (1, 2)), 4 - 3)
        self.assertFalse(is_irreducible(graph))
        graph = Graph(2, [])
        graph.set_outputs([graph.conjunction(2, graph.conjunction(2, 4))])
        self.assertEqual(gain(graph, 4, (1, 2)), 1)

    def test_a_gain_of_zero(self):
        graph = xor_graph()
        self.assertEqual(gain(graph, 3, (1, 2)), 0)
        for node, leaves in ((0, ()), (1, (1,)), (6, (6,)), (3, (2, 3))):
            self.assertEqual(gain(graph, node, leaves), 0)

    def test_a_negative_gain(self):
        graph = xor_graph()
        graph.set_outputs(graph.outputs + [6, 8])
        # the nodes 3 and 4 stay
        self.assertEqual(gain(graph, 6, (1, 2)), 2 - 3)

    def test_leaves_that_do_not_matter_cost_nothing(self):
        graph = xor_graph()
        self.assertEqual(gain(graph, 3, (1, 2)), gain(graph, 3, (1, 2, 4)))

    def test_by_the_document(self):
        for seed in range(40):
            graph = drawn_graph(seed, inputs=2 + seed % 4, registers=seed % 2, ands=15)
            before = fields(graph)
            for node, each in enumerate(cuts(graph)):
                for leaves in each:
                    self.assertEqual(gain(graph, node, leaves), document.gain_of(graph, node, leaves))
            self.assertEqual(is_irreducible(graph), document.irreducible(graph))
            self.assertEqual(fields(graph), before)

    def test_a_gain_of_the_last_cut_alone(self):
        graph = drawn_graph(2350, inputs=4, registers=0, ands=12)
        self.assertEqual(graph.ands[-1], (17, 18))
        self.assertFalse(is_irreducible(graph))

    def test_leaves_that_do_not_separate(self):
        graph = xor_graph()
        for node, leaves in ((6, (1,)), (6, ()), (3, (2,)), (1, (2,)), (6, (4,))):
            self.assertEqual(failure(gain, graph, node, leaves), ("NotACut", node))

    def test_irreducible_graphs(self):
        self.assertTrue(is_irreducible(Graph(0, [])))
        self.assertTrue(is_irreducible(Graph(3, [1])))
        graph = Graph(2, [])
        graph.exclusive(2, 4)
        self.assertTrue(is_irreducible(graph))
        self.assertFalse(is_irreducible(xor_graph()))


class RewritingTest(unittest.TestCase):
    def check(self, graph, same=None):
        before = fields(graph)
        result = rewritten(graph)
        self.assertEqual(fields(graph), before)
        small = compact(graph)
        self.assertEqual((result.inputs, len(result.outputs)), (graph.inputs, len(graph.outputs)))
        self.assertEqual([bit for _, bit in result.registers], [bit for _, bit in graph.registers])
        (same or self.same)(graph, result)
        self.assertEqual(fields(compact(result)), fields(result))
        self.assertLessEqual(len(result.ands), len(small.ands))
        self.assertTrue(is_irreducible(result))
        if is_irreducible(small):
            self.assertEqual(len(result.ands), len(small.ands))
        return result

    def same(self, one, two):
        self.assertEqual(behaviour(one), behaviour(two))

    def same_for_drawn_rows(self, one, two):
        drawn = random.Random(9)
        rows = [[drawn.randrange(2) for _ in range(one.inputs)] for _ in range(30)]
        resets = [int(drawn.random() < 0.1) for _ in rows]
        self.assertEqual(run_resets(one, rows, resets), run_resets(two, rows, resets))

    def test_the_example(self):
        graph = Graph(2, [])
        graph.set_outputs([graph.disjunction(graph.conjunction(2, 4), graph.conjunction(2, 5))])
        result = rewritten(graph)
        self.assertEqual((len(graph.ands), result.ands, result.outputs), (3, [], [2]))

    def test_an_exclusive_or(self):
        self.assertEqual(len(self.check(xor_graph()).ands), 3)

    def test_graphs_without_ands(self):
        for graph in (Graph(0, []), Graph(2, [1])):
            self.check(graph)
        graph = Graph(1, [1, 0])
        graph.set_outputs([0, 1, 3, 4, 7])
        graph.set_next(0, 0)
        graph.set_next(1, 5)
        self.check(graph)

    def test_ands_that_are_not_needed(self):
        graph = xor_graph()
        graph.set_outputs([6])
        self.assertEqual(self.check(graph).ands, [(2, 4)])

    def test_drawn_graphs(self):
        for seed in range(150):
            graph = drawn_graph(seed, inputs=1 + seed % 5, registers=seed % 4, ands=seed % 45, outputs=seed % 6)
            self.check(graph)

    def test_drawn_graphs_by_the_document(self):
        for seed in range(1000, 1030):
            result = self.check(drawn_graph(seed, inputs=4, registers=1, ands=20))
            self.assertTrue(document.irreducible(result))

    def test_drawn_designs(self):
        for seed in range(300, 312):
            graph = synthesize(design_of(DrawnDesign(seed).text(), top="t")).graph
            self.check(graph, self.same_for_drawn_rows)

    def test_a_product(self):
        graph = Graph(12, [])
        graph.set_outputs(multiply_bits(graph, [2, 4, 6, 8, 10, 12], [14, 16, 18, 20, 22, 24]))
        self.check(graph, self.same_for_drawn_rows)

    def test_replacements_that_exclude_each_other(self):
        # in these graphs a leaf of one replacement is an AND that another one removes
        for seed in (44, 1128):
            self.check(drawn_graph(seed, inputs=3 + seed % 8, registers=seed % 4, ands=20 + seed % 200, outputs=2 + seed % 30),
                       self.same_for_drawn_rows)

    def test_a_full_graph_whose_nodes_are_all_needed(self):
        # there is no room for the new ANDs beside the old ones
        graph = Graph(102, [])
        both = graph.conjunction(2, 4)
        one, two = graph.conjunction(2, both + 1), graph.conjunction(4, both + 1)
        outputs = [graph.conjunction(one + 1, two + 1) + 1]
        pairs = [(a, b) for a in range(6, 206) for b in range(a + 1, 206) if a // 2 != b // 2]
        outputs += [graph.conjunction(a, b) for a, b in pairs[:4000 - graph.node_count()]]
        graph.set_outputs(outputs)
        self.assertEqual((graph.node_count(), len(compact(graph).ands)), (4000, len(graph.ands)))
        self.assertEqual(len(self.check(graph, self.same_for_drawn_rows).ands), len(graph.ands) - 1)

    def test_a_full_graph(self):
        drawn = random.Random(10)
        graph = Graph(8, [0, 1])
        while graph.node_count() < 4000:
            first = max(1, graph.node_count() - 40)
            graph.conjunction(drawn.randrange(2 * first, 2 * graph.node_count()), drawn.randrange(2, 2 * graph.node_count()))
        graph.set_outputs(list(range(7900, 8000)))
        self.check(graph, self.same_for_drawn_rows)

    def test_every_function_of_two_variables(self):
        for table in range(16):
            graph = Graph(2, [])
            terms = [graph.conjunction(2 ^ 1 ^ row & 1, 4 ^ 1 ^ row >> 1) for row in range(4) if table >> row & 1]
            literal = 0
            for term in terms:
                literal = graph.disjunction(literal, term)
            graph.set_outputs([literal])
            self.assertEqual(len(self.check(graph).ands), table_cost(table, 2))


if __name__ == "__main__":
    unittest.main()
