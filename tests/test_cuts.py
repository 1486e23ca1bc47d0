import itertools
import random
import unittest

import cuts_by_the_document as document
from clockwright.cuts import MOST_CUTS, MOST_LEAVES, cone, cut_table, cuts, private_cone
from clockwright.graph import Graph
from drawn_graphs import drawn_graph, fields
from helpers import failure


def small():
    """Two ANDs, the second one of the inverted first one."""
    graph = Graph(3, [])
    graph.set_outputs([graph.conjunction(graph.conjunction(2, 4) + 1, 6)])
    return graph


def diamond():
    """An AND that two ANDs use, and one above both."""
    graph = Graph(3, [])
    low = graph.conjunction(2, 4)
    one, two = graph.conjunction(low, 7), graph.conjunction(low + 1, 6)
    graph.set_outputs([graph.conjunction(one + 1, two + 1)])
    return graph


def drawn_graphs():
    return [drawn_graph(seed, inputs=2 + seed % 5, registers=seed % 3, ands=6 + seed % 20) for seed in range(60)]


class CutsTest(unittest.TestCase):
    def test_the_limits(self):
        self.assertEqual((MOST_LEAVES, MOST_CUTS), (4, 8))

    def test_the_example(self):
        self.assertEqual(cuts(small())[5], [(3, 4), (1, 2, 3), (5,)])

    def test_nodes_that_are_no_ands(self):
        self.assertEqual(cuts(Graph(2, [0, 1])), [[()], [(1,)], [(2,)], [(3,)], [(4,)]])
        self.assertEqual(cuts(Graph(0, [])), [[()]])

    def test_duplicates_and_unions_that_contain_another_one(self):
        found = cuts(diamond())
        self.assertEqual(found[4], [(1, 2), (4,)])
        self.assertEqual(found[5], [(3, 4), (1, 2, 3), (5,)])
        self.assertEqual(found[6], [(3, 4), (1, 2, 3), (6,)])
        # (3, 4, 5) contains (3, 4), and (1, 2, 3) comes up twice
        self.assertEqual(found[7], [(3, 4), (5, 6), (1, 2, 3), (7,)])

    def test_a_union_with_five_leaves(self):
        graph = Graph(5, [])
        one = graph.conjunction(graph.conjunction(2, 4), 6)
        two = graph.conjunction(8, 10)
        graph.conjunction(one, two)
        self.assertEqual(cuts(graph)[9], [(7, 8), (3, 6, 8), (4, 5, 7), (1, 2, 3, 8), (3, 4, 5, 6), (9,)])

    def test_more_than_seven_unions(self):
        graph = Graph(6, [])
        one = graph.conjunction(graph.conjunction(2, 4), graph.conjunction(6, 8))
        self.assertEqual(cuts(graph)[9], [(7, 8), (1, 2, 8), (3, 4, 7), (1, 2, 3, 4), (9,)])
        graph.conjunction(one, graph.conjunction(graph.conjunction(2, 10), 12))
        # the unions of (9,) (7, 8) (1, 2, 8) (3, 4, 7) (1, 2, 3, 4) and (11,) (6, 10) (1, 5, 6)
        self.assertEqual(cuts(graph)[12], [
            (9, 11), (6, 9, 10), (7, 8, 11), (1, 2, 8, 11), (1, 5, 6, 9), (3, 4, 7, 11), (6, 7, 8, 10), (12,),
        ])

    def test_drawn_graphs(self):
        for graph in drawn_graphs():
            before = fields(graph)
            found = cuts(graph)
            self.assertEqual(found, document.all_cuts(graph))
            self.assertEqual(fields(graph), before)

    def test_facts(self):
        for graph in drawn_graphs():
            for node, each in enumerate(cuts(graph)):
                self.assertLessEqual(len(each), 8)
                for leaves in each:
                    self.assertTrue(document.separates(graph, leaves, node))
                for one, two in itertools.permutations(each[:-1], 2):
                    self.assertFalse(set(one) <= set(two))

    def test_a_deep_graph(self):
        graph = Graph(2, [])
        one, two = 2, 4
        for _ in range(3000):
            one, two = two, graph.conjunction(one, two ^ 1) ^ 1
        node = graph.node_count() - 1
        self.assertEqual(len(cuts(graph)), node + 1)
        self.assertLess(cut_table(graph, node, (1, 2)), 16)
        self.assertEqual(failure(cut_table, graph, node, (1,)), ("NotACut", node))
        self.assertEqual(len(cone(graph, node, (1, 2))), node - 2)
        self.assertIn(node, private_cone(graph, node, (1, 2)))


class TablesTest(unittest.TestCase):
    def test_the_example(self):
        self.assertEqual(cut_table(small(), 5, (3, 4)), 2 ** 1)

    def test_leaves_and_constants(self):
        graph = small()
        self.assertEqual(cut_table(graph, 0, ()), 0)
        self.assertEqual(cut_table(graph, 0, (1, 3)), 0)
        self.assertEqual(cut_table(graph, 2, (2,)), 2)
        self.assertEqual(cut_table(graph, 3, (1, 2, 3, 5)), 0xF0F0)
        self.assertEqual(cut_table(graph, 5, (2, 5)), 12)

    def test_leaves_in_their_order(self):
        self.assertEqual(cut_table(small(), 5, (1, 2, 3)), 0b01110000)
        self.assertEqual(cut_table(diamond(), 7, (3, 4)), 0b1001)

    def test_leaves_that_do_not_matter(self):
        graph = small()
        self.assertEqual(cut_table(graph, 4, (1, 2, 3)), 0b10001000)
        self.assertEqual(cut_table(graph, 5, (1, 3, 4)), 0b00001100)
        self.assertEqual(cut_table(graph, 4, (4, 5)), 10)

    def test_drawn_leaves(self):
        drawn = random.Random(3)
        for graph in drawn_graphs():
            before = fields(graph)
            for _ in range(60):
                node = drawn.randrange(graph.node_count())
                many = min(drawn.randint(0, 4), graph.node_count() - 1)
                leaves = tuple(sorted(drawn.sample(range(1, graph.node_count()), many)))
                self.check(graph, node, leaves)
            self.assertEqual(fields(graph), before)

    def test_all_cuts_of_drawn_graphs(self):
        for graph in drawn_graphs():
            for node, each in enumerate(cuts(graph)):
                for leaves in each:
                    self.check(graph, node, leaves)

    def check(self, graph, node, leaves):
        if document.separates(graph, leaves, node):
            self.assertEqual(cut_table(graph, node, leaves), document.table_above(graph, node, leaves))
            self.assertEqual(cone(graph, node, leaves), sorted(document.cone_of(graph, node, leaves)))
            self.assertEqual(private_cone(graph, node, leaves), sorted(document.private_cone_of(graph, node, leaves)))
        else:
            for function in (cut_table, cone, private_cone):
                self.assertEqual(failure(function, graph, node, leaves), ("NotACut", node))


class ConesTest(unittest.TestCase):
    def test_leaves_that_do_not_separate(self):
        graph = small()
        for node, leaves in ((1, ()), (1, (2, 3)), (4, (1,)), (5, (1, 2)), (5, (4,)), (5, ()), (3, (5,))):
            for function in (cut_table, cone, private_cone):
                self.assertEqual(failure(function, graph, node, leaves), ("NotACut", node))

    def test_empty_cones(self):
        graph = small()
        for node, leaves in ((0, ()), (0, (1,)), (1, (1,)), (3, (2, 3)), (5, (5,)), (4, (1, 4))):
            self.assertEqual((cone(graph, node, leaves), private_cone(graph, node, leaves)), ([], []))

    def test_cones(self):
        graph = diamond()
        self.assertEqual(cone(graph, 7, (1, 2, 3)), [4, 5, 6, 7])
        self.assertEqual(cone(graph, 7, (3, 4)), [5, 6, 7])
        self.assertEqual(cone(graph, 7, (1, 2, 3, 5)), [4, 6, 7])
        self.assertEqual(cone(graph, 5, (1, 2, 3)), [4, 5])

    def test_private_cones(self):
        graph = diamond()
        self.assertEqual(private_cone(graph, 7, (1, 2, 3)), [4, 5, 6, 7])
        self.assertEqual(private_cone(graph, 7, (3, 4)), [5, 6, 7])
        # node 4 is an operand of node 5, which is a leaf, or of node 6
        self.assertEqual(private_cone(graph, 7, (1, 2, 3, 5)), [6, 7])
        self.assertEqual(private_cone(graph, 5, (1, 2, 3)), [5])

    def test_uses_by_outputs(self):
        graph = diamond()
        graph.set_outputs(graph.outputs + [9])
        self.assertEqual(cone(graph, 7, (1, 2, 3)), [4, 5, 6, 7])
        self.assertEqual(private_cone(graph, 7, (1, 2, 3)), [5, 6, 7])
        graph.set_outputs([14, 12])
        # what an output uses stays, and so does what it needs
        self.assertEqual(private_cone(graph, 7, (1, 2, 3)), [5, 7])

    def test_uses_by_next_literals(self):
        graph = Graph(2, [0])
        low = graph.conjunction(2, 4)
        high = graph.conjunction(low, 7)
        graph.set_outputs([high])
        self.assertEqual(private_cone(graph, 5, (1, 2, 3)), [4, 5])
        graph.set_next(0, low + 1)
        self.assertEqual(cone(graph, 5, (1, 2, 3)), [4, 5])
        self.assertEqual(private_cone(graph, 5, (1, 2, 3)), [5])

    def test_the_node_itself_may_have_any_uses(self):
        graph = diamond()
        graph.set_outputs([8, 9, 14])
        self.assertEqual(private_cone(graph, 4, (1, 2)), [4])
        graph.set_outputs([])
        self.assertEqual(private_cone(graph, 7, (1, 2, 3)), [4, 5, 6, 7])

    def test_uses_by_ands_outside_of_the_cone(self):
        graph = diamond()
        graph.conjunction(8, 15)
        self.assertEqual(private_cone(graph, 7, (1, 2, 3)), [5, 6, 7])


if __name__ == "__main__":
    unittest.main()
