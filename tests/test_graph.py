import itertools
import random
import unittest

from clockwright import graph as module
from clockwright.graph import MAX_NODES, Graph, compact, initial_state, negated, node_values, run, run_resets, step
from drawn_graphs import Recorder, behaviour, bits, drawn_graph, fields
from helpers import failure


def chain(graph, ands):
    """Add so many ANDs to a graph with two inputs."""
    one, two = graph.input_literal(0), graph.input_literal(1)
    for _ in range(ands):
        one, two = two, negated(graph.conjunction(one, two))
    return one


class NodesTest(unittest.TestCase):
    def test_a_new_graph(self):
        initials = [1, 0, 1]
        graph = Graph(2, initials)
        self.assertEqual(fields(graph), (2, [(6, 1), (8, 0), (10, 1)], [], []))
        self.assertEqual(graph.node_count(), 6)
        initials.append(0)
        self.assertEqual(len(graph.registers), 3)

    def test_literals_of_inputs_and_registers(self):
        graph = Graph(2, [1, 0])
        self.assertEqual([graph.input_literal(index) for index in range(2)], [2, 4])
        self.assertEqual([graph.register_literal(index) for index in range(2)], [6, 8])

    def test_graphs_without_inputs_or_registers(self):
        graph = Graph(0, [])
        self.assertEqual((graph.node_count(), fields(graph)), (1, (0, [], [], [])))
        self.assertEqual(Graph(0, [1]).register_literal(0), 2)
        self.assertEqual(node_values(graph, [], []), [0])

    def test_negated(self):
        self.assertEqual([negated(literal) for literal in (0, 1, 6, 7)], [1, 0, 7, 6])

    def test_set_next(self):
        graph = Graph(1, [1, 0])
        self.assertIsNone(graph.set_next(1, 3))
        self.assertEqual(graph.registers, [(4, 1), (3, 0)])
        graph.set_next(1, 0)
        graph.set_next(0, 5)
        self.assertEqual(graph.registers, [(5, 1), (0, 0)])

    def test_set_outputs(self):
        graph = Graph(1, [])
        outputs = [2, 3, 2]
        self.assertIsNone(graph.set_outputs(outputs))
        outputs.append(0)
        self.assertEqual(graph.outputs, [2, 3, 2])
        graph.set_outputs([])
        self.assertEqual(graph.outputs, [])

    def test_initial_state(self):
        graph = Graph(1, [1, 0])
        graph.set_next(0, 2)
        found = initial_state(graph)
        self.assertEqual(found, [1, 0])
        found.clear()
        self.assertEqual(initial_state(graph), [1, 0])

    def test_methods_stand_in_the_class(self):
        for name in ("input_literal register_literal conjunction disjunction exclusive choice node_count set_next "
                     "set_outputs").split():
            self.assertIn(name, vars(Graph))


class ConjunctionTest(unittest.TestCase):
    def setUp(self):
        self.graph = Graph(3, [])

    def check(self, a, b, result, ands):
        for one, two in ((a, b), (b, a)):
            self.assertEqual(self.graph.conjunction(one, two), result)
            self.assertEqual(self.graph.ands, ands)

    def test_the_constant_0(self):
        for literal in (0, 1, 2, 3, 7):
            self.check(0, literal, 0, [])

    def test_the_constant_1(self):
        for literal in (1, 2, 3, 7):
            self.check(1, literal, literal, [])

    def test_equal_literals(self):
        for literal in (2, 3, 6, 7):
            self.check(literal, literal, literal, [])

    def test_literals_of_the_same_node(self):
        for literal in (2, 4, 6):
            self.check(literal, literal + 1, 0, [])

    def test_a_new_and(self):
        self.check(2, 4, 8, [(2, 4)])
        self.check(7, 3, 10, [(2, 4), (3, 7)])
        self.check(9, 6, 12, [(2, 4), (3, 7), (6, 9)])

    def test_an_and_that_is_there(self):
        self.check(4, 2, 8, [(2, 4)])
        self.check(5, 2, 10, [(2, 4), (2, 5)])
        self.check(2, 4, 8, [(2, 4), (2, 5)])
        self.check(8, 9, 0, [(2, 4), (2, 5)])
        self.check(11, 11, 11, [(2, 4), (2, 5)])

    def test_no_rule_but_these(self):
        # 8 is the conjunction of 2 and 4, but this does not count
        self.check(2, 4, 8, [(2, 4)])
        self.check(2, 8, 10, [(2, 4), (2, 8)])
        self.check(3, 8, 12, [(2, 4), (2, 8), (3, 8)])

    def test_the_invariants(self):
        for seed in range(30):
            graph = drawn_graph(seed, ands=40)
            self.assertEqual(len(set(graph.ands)), len(graph.ands))
            for index, (a, b) in enumerate(graph.ands):
                self.assertTrue(2 <= a < b < 2 * (6 + index))


class OperationsTest(unittest.TestCase):
    def recorded(self, name, *literals):
        graph = Recorder(3)
        result = getattr(graph, name)(*literals)
        return result, graph.recorded

    def test_the_example(self):
        graph = Graph(2, [1])
        self.assertEqual((graph.conjunction(4, 2), graph.disjunction(2, 4)), (8, 11))
        self.assertEqual(graph.ands, [(2, 4), (3, 5)])
        graph.set_next(0, 8)
        graph.set_outputs([6, 11])
        self.assertEqual(run(graph, [[0, 1], [1, 1]]), [[1, 1], [0, 1]])

    def test_disjunction(self):
        self.assertEqual(self.recorded("disjunction", 2, 5), (9, [((3, 4), 8)]))
        self.assertEqual(self.recorded("disjunction", 0, 5), (5, [((1, 4), 4)]))

    def test_exclusive(self):
        calls = [((2, 5), 8), ((3, 4), 10), ((9, 11), 12)]
        self.assertEqual(self.recorded("exclusive", 2, 4), (13, calls))
        calls = [((3, 4), 8), ((2, 5), 10), ((9, 11), 12)]
        self.assertEqual(self.recorded("exclusive", 4, 2), (13, calls))
        self.assertEqual(self.recorded("exclusive", 4, 1)[0], 5)
        self.assertEqual(self.recorded("exclusive", 4, 5)[0], 1)
        self.assertEqual(self.recorded("exclusive", 4, 4)[0], 0)

    def test_choice(self):
        calls = [((2, 4), 8), ((3, 6), 10), ((9, 11), 12)]
        self.assertEqual(self.recorded("choice", 2, 4, 6), (13, calls))
        calls = [((5, 6), 8), ((2, 4), 10), ((9, 11), 12)]
        self.assertEqual(self.recorded("choice", 5, 6, 2), (13, calls))
        self.assertEqual(self.recorded("choice", 1, 4, 6)[0], 4)
        self.assertEqual(self.recorded("choice", 0, 4, 6)[0], 6)

    def test_equal_operands_of_a_choice_are_built(self):
        self.assertEqual(self.recorded("choice", 2, 4, 4), (13, [((2, 4), 8), ((3, 4), 10), ((9, 11), 12)]))

    def test_values(self):
        for a, b, c in itertools.product(range(8), repeat=3):
            graph = Graph(3, [])
            graph.set_outputs([graph.conjunction(a, b), graph.disjunction(a, b), graph.exclusive(a, b), graph.choice(c, a, b)])
            for row in bits(3):
                x, y, z = [([0] + row)[literal // 2] ^ literal & 1 for literal in (a, b, c)]
                self.assertEqual(step(graph, row, []), ([x & y, x | y, x ^ y, x if z else y], []))


class SizeTest(unittest.TestCase):
    def test_the_constructor(self):
        self.assertEqual(MAX_NODES, 4000)
        self.assertEqual(Graph(3999, []).node_count(), 4000)
        self.assertEqual(Graph(3000, [0] * 999).node_count(), 4000)
        self.assertEqual(Graph(0, [1] * 3999).node_count(), 4000)
        for inputs, registers in ((4000, 0), (3000, 1000), (0, 4000), (10000, 0)):
            self.assertEqual(failure(Graph, inputs, [0] * registers), ("Unbounded", "graph"))

    def test_a_conjunction(self):
        graph = Graph(2, [])
        chain(graph, 3997)
        self.assertEqual(graph.node_count(), 4000)
        before = fields(graph)
        self.assertEqual(failure(graph.conjunction, 7998, 7996), ("Unbounded", "graph"))
        self.assertEqual(fields(graph), before)

    def test_what_adds_no_node_is_still_allowed(self):
        graph = Graph(2, [])
        chain(graph, 3997)
        a, b = graph.ands[-1]
        self.assertEqual(graph.conjunction(b, a), 7998)
        self.assertEqual([graph.conjunction(0, 5), graph.conjunction(1, 5), graph.conjunction(4, 5)], [0, 5, 0])

    def test_nodes_that_were_added_before_an_error_stay(self):
        for room in range(4):
            for name, literals in (("exclusive", (2, 8)), ("choice", (2, 8, 11))):
                graph = Graph(2, [])
                chain(graph, 3997 - room)
                call = getattr(graph, name)
                if room == 3:
                    call(*literals)
                else:
                    self.assertEqual(failure(call, *literals), ("Unbounded", "graph"))
                self.assertEqual(graph.node_count(), 4000)

    def test_runs_of_large_graphs(self):
        graph = Graph(2, [])
        literal = chain(graph, 3997)
        graph.set_outputs([literal])
        self.assertEqual(len(compact(graph).ands), literal // 2 - 2)
        self.assertEqual(len(run(graph, bits(2))), 4)


class RunsTest(unittest.TestCase):
    def setUp(self):
        # two registers: one that counts the input, and one that holds what the first one had
        self.graph = Graph(1, [1, 0])
        self.graph.set_next(0, self.graph.exclusive(2, 4))
        self.graph.set_next(1, 4)
        self.graph.set_outputs([4, 7, 2, 1])

    def test_node_values(self):
        graph = Graph(2, [0])
        graph.conjunction(2, 5)
        graph.conjunction(7, 9)
        self.assertEqual(node_values(graph, [1, 0], [0]), [0, 1, 0, 0, 1, 0])
        self.assertEqual(node_values(graph, [1, 1], [0]), [0, 1, 1, 0, 0, 1])
        self.assertEqual(node_values(graph, [1, 1], [1]), [0, 1, 1, 1, 0, 0])

    def test_step(self):
        self.assertEqual(step(self.graph, [1], [1, 0]), ([1, 1, 1, 1], [0, 1]))
        self.assertEqual(step(self.graph, [0], [0, 1]), ([0, 0, 0, 1], [0, 0]))

    def test_arguments_do_not_change(self):
        row, state = [1], [1, 0]
        outputs, following = step(self.graph, row, state)
        outputs.append(3)
        following.append(3)
        values = node_values(self.graph, row, state)
        values.append(3)
        self.assertEqual((row, state), ([1], [1, 0]))
        rows, resets = [[1], [0]], [1, 0]
        run_resets(self.graph, rows, resets)[0].append(3)
        self.assertEqual((rows, resets), ([[1], [0]], [1, 0]))

    def test_run(self):
        expected = [[1, 1, 1, 1], [0, 0, 1, 1], [1, 1, 0, 1], [1, 0, 1, 1]]
        self.assertEqual(run(self.graph, [[1], [1], [0], [1]]), expected)
        self.assertEqual(run_resets(self.graph, [[1], [1], [0], [1]], [0, 0, 0, 0]), expected)
        self.assertEqual((run(self.graph, []), run_resets(self.graph, [], [])), ([], []))

    def test_resets(self):
        # the reset bit of a cycle counts for the next one
        self.assertEqual(run_resets(self.graph, [[1], [1], [0]], [1, 0, 0]), [[1, 1, 1, 1], [1, 1, 1, 1], [0, 0, 0, 1]])
        self.assertEqual(run_resets(self.graph, [[1], [1], [1]], [0, 1, 1]), [[1, 1, 1, 1], [0, 0, 1, 1], [1, 1, 1, 1]])

    def test_registers_without_a_next_literal_keep_their_values(self):
        graph = Graph(0, [1, 0])
        graph.set_outputs([2, 4])
        self.assertEqual(run(graph, [[], [], []]), [[1, 0]] * 3)


class CompactTest(unittest.TestCase):
    def test_ands_that_are_not_needed(self):
        graph = Graph(3, [1])
        one = graph.conjunction(2, 4)
        graph.conjunction(3, 5)
        two = graph.conjunction(one, 7)
        graph.conjunction(two, 3)
        three = graph.conjunction(two ^ 1, 8)
        graph.set_outputs([three ^ 1, 2])
        graph.set_next(0, two ^ 1)
        before = fields(graph)
        small = compact(graph)
        self.assertEqual(fields(small), (3, [(13, 1)], [(2, 4), (7, 10), (8, 13)], [15, 2]))
        self.assertEqual(fields(graph), before)

    def test_what_next_literals_refer_to_is_needed(self):
        graph = Graph(2, [0])
        graph.conjunction(2, 4)
        self.assertEqual(compact(graph).ands, [])
        graph.set_next(0, 9)
        self.assertEqual(fields(compact(graph)), (2, [(9, 0)], [(2, 4)], []))

    def test_ends_that_are_no_ands(self):
        graph = Graph(1, [1])
        graph.conjunction(2, 4)
        graph.set_outputs([0, 1, 3, 4, 2])
        graph.set_next(0, 1)
        self.assertEqual(fields(compact(graph)), (1, [(1, 1)], [], [0, 1, 3, 4, 2]))

    def test_drawn_graphs(self):
        for seed in range(60):
            graph = drawn_graph(seed, ands=random.Random(seed).randrange(30))
            before = fields(graph)
            small = compact(graph)
            self.assertEqual(fields(graph), before)
            self.assertEqual(behaviour(small), behaviour(graph))
            self.assertEqual(fields(compact(small)), fields(small))
            self.assertEqual(len(small.ands), len(self.needed(graph)))

    def needed(self, graph):
        first = 1 + graph.inputs + len(graph.registers)
        found = set()
        left = [literal // 2 for literal in graph.outputs] + [literal // 2 for literal, _ in graph.registers]
        while left:
            node = left.pop()
            if node >= first and node not in found:
                found.add(node)
                left += [literal // 2 for literal in graph.ands[node - first]]
        return found

    def test_a_compact_graph_is_a_graph_that_can_grow(self):
        graph = Graph(2, [])
        graph.set_outputs([graph.conjunction(2, 4)])
        small = compact(graph)
        self.assertEqual((small.conjunction(4, 2), small.conjunction(3, 4)), (6, 8))
        self.assertEqual(graph.ands, [(2, 4)])

    def test_a_full_graph(self):
        graph = Graph(2, [])
        graph.set_outputs([chain(graph, module.MAX_NODES - 3), 7998])
        self.assertEqual(fields(compact(graph)), fields(graph))


if __name__ == "__main__":
    unittest.main()
