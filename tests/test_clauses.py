import itertools
import unittest

from clockwright.clauses import all_true, graph_clauses, is_true, term_of
from clockwright.graph import Graph, node_values
from drawn_graphs import bits, drawn_graph, fields


class TermsTest(unittest.TestCase):
    def test_terms_of_literals(self):
        self.assertEqual([term_of(literal) for literal in range(8)], [1, -1, 2, -2, 3, -3, 4, -4])
        self.assertEqual((term_of(7998), term_of(7999)), (4000, -4000))

    def test_true_clauses(self):
        self.assertIs(is_true((1,), [1]), True)
        self.assertIs(is_true((1,), [0]), False)
        self.assertIs(is_true((-1,), [1]), False)
        self.assertIs(is_true((-1,), [0]), True)
        self.assertIs(is_true((), []), False)
        self.assertIs(is_true((), [1, 0]), False)
        self.assertIs(is_true((1, -1), [0]), True)
        self.assertIs(is_true((2, 2), [1, 0]), False)

    def test_all_assignments_of_three_variables(self):
        terms = (1, -1, 2, -2, 3, -3)
        for assignment in bits(3):
            for clause in itertools.combinations(terms, 2):
                expected = any(assignment[abs(term) - 1] == (term > 0) for term in clause)
                self.assertIs(is_true(clause, assignment), expected)

    def test_all_true(self):
        self.assertIs(all_true([], []), True)
        self.assertIs(all_true([()], [1]), False)
        self.assertIs(all_true([(1, 2), (1, -2)], [1, 0]), True)
        self.assertIs(all_true([(1, 2), (1, -2)], [0, 1]), False)
        self.assertIs(all_true([(1, 2), (1, -2)], [0, 0]), False)

    def test_arguments_do_not_change(self):
        clauses, assignment = [(1, 2), (-1,)], [1, 0]
        all_true(clauses, assignment)
        self.assertEqual((clauses, assignment), ([(1, 2), (-1,)], [1, 0]))


class GraphTest(unittest.TestCase):
    def test_the_example(self):
        graph = Graph(2, [])
        self.assertEqual(graph.conjunction(2, 4), 6)
        self.assertEqual(graph_clauses(graph), [(-1,), (-4, 2), (-4, 3), (4, -2, -3)])

    def test_graphs_without_ands(self):
        self.assertEqual(graph_clauses(Graph(0, [])), [(-1,)])
        self.assertEqual(graph_clauses(Graph(3, [1, 0])), [(-1,)])

    def test_inverted_operands(self):
        graph = Graph(1, [0])
        graph.conjunction(3, 5)
        graph.conjunction(7, 2)
        self.assertEqual(graph.ands, [(3, 5), (2, 7)])
        self.assertEqual(graph_clauses(graph), [
            (-1,), (-4, -2), (-4, -3), (4, 2, 3), (-5, 2), (-5, -4), (5, -2, 4)])

    def test_ands_that_nothing_needs_have_clauses(self):
        graph = Graph(2, [])
        graph.conjunction(2, 4)
        graph.set_outputs([2])
        self.assertEqual(len(graph_clauses(graph)), 4)

    def test_drawn_graphs(self):
        for seed in range(30):
            graph = drawn_graph(seed, ands=12)
            before = fields(graph)
            expected = [(-1,)]
            for index, (a, b) in enumerate(graph.ands):
                variable = 1 + 3 + 2 + index + 1
                x, y = (-(literal // 2 + 1) if literal % 2 else literal // 2 + 1 for literal in (a, b))
                expected += [(-variable, x), (-variable, y), (variable, -x, -y)]
            self.assertEqual(graph_clauses(graph), expected)
            self.assertEqual(fields(graph), before)

    def test_the_values_of_nodes_and_nothing_else(self):
        for seed in range(12):
            graph = drawn_graph(seed, inputs=2, registers=1, ands=7)
            clauses = graph_clauses(graph)
            values = [node_values(graph, row, state) for row in bits(2) for state in bits(1)]
            for assignment in bits(graph.node_count()):
                self.assertIs(all_true(clauses, assignment), assignment in values)


if __name__ == "__main__":
    unittest.main()
