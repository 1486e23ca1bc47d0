import random
import unittest

from clockwright.graph import Graph, node_values, run
from clockwright.unroll import copy_into, difference, rows_of, unroll
from drawn_graphs import Recorder, bits, drawn_graph, fields
from helpers import failure


def value(values, literal):
    return values[literal // 2] ^ (literal & 1)


class CopyTest(unittest.TestCase):
    def source(self):
        graph = Graph(2, [0, 1])
        first = graph.conjunction(2, 5)
        second = graph.conjunction(first ^ 1, 6)
        graph.set_next(0, second ^ 1)
        graph.set_next(1, 1)
        graph.set_outputs([first, first ^ 1, 3, 0, 8, 9])
        return graph

    def test_a_copy_into_a_graph_of_its_own(self):
        source = self.source()
        graph = Graph(2, [0, 0])
        self.assertEqual(copy_into(graph, source, [2, 4], [6, 8]), ([10, 11, 3, 0, 8, 9], [13, 1]))
        self.assertEqual(graph.ands, source.ands)
        self.assertEqual((graph.outputs, graph.registers), ([], [(6, 0), (8, 0)]))

    def test_a_copy_with_inverted_literals(self):
        graph = Graph(4, [])
        self.assertEqual(copy_into(graph, self.source(), [7, 3], [9, 5]), ([10, 11, 6, 0, 5, 4], [13, 1]))
        self.assertEqual(graph.ands, [(2, 7), (9, 11)])

    def test_constants(self):
        graph = Graph(1, [])
        self.assertEqual(copy_into(graph, self.source(), [1, 0], [2, 1]), ([1, 0, 0, 0, 1, 0], [1, 1]))
        self.assertEqual(graph.ands, [])

    def test_ands_that_are_there_already(self):
        graph = Graph(2, [0, 0])
        graph.conjunction(2, 5)
        graph.conjunction(3, 4)
        graph.set_outputs([2])
        self.assertEqual(copy_into(graph, self.source(), [2, 4], [6, 8]), ([10, 11, 3, 0, 8, 9], [15, 1]))
        self.assertEqual((graph.ands, graph.outputs), ([(2, 5), (3, 4), (6, 11)], [2]))

    def test_the_calls_of_conjunction(self):
        for seed in range(30):
            source = drawn_graph(seed, inputs=2, registers=2, ands=10)
            drawn = random.Random(seed)
            recorder = Recorder(3, [0])
            recorder.conjunction(2, 4)
            inputs = [drawn.randrange(10) for _ in range(2)]
            registers = [drawn.randrange(10) for _ in range(2)]
            recorder.recorded.clear()
            found = copy_into(recorder, source, inputs, registers)
            literals = [0] + inputs + registers
            self.assertEqual(len(recorder.recorded), len(source.ands))
            for (a, b), (pair, result) in zip(source.ands, recorder.recorded):
                self.assertEqual(pair, tuple(sorted((value(literals, a), value(literals, b)))))
                literals.append(result)
            self.assertEqual(found, ([value(literals, literal) for literal in source.outputs],
                                     [value(literals, literal) for literal, _ in source.registers]))

    def test_ands_that_nothing_needs_are_copied(self):
        source = Graph(2, [])
        source.conjunction(2, 4)
        graph = Graph(2, [])
        self.assertEqual(copy_into(graph, source, [2, 4], []), ([], []))
        self.assertEqual(graph.ands, [(2, 4)])

    def test_arguments_do_not_change(self):
        source, inputs, registers = self.source(), [2, 4], [6, 8]
        before = fields(source)
        outputs, nexts = copy_into(Graph(2, [0, 0]), source, inputs, registers)
        outputs.append(1)
        nexts.append(1)
        self.assertEqual((fields(source), inputs, registers), (before, [2, 4], [6, 8]))

    def test_too_many_nodes(self):
        source = self.source()
        self.assertEqual(failure(copy_into, Graph(3998, []), source, [2, 4], [6, 8]), ("Unbounded", "graph"))
        self.assertIsNone(failure(copy_into, Graph(3997, []), source, [2, 4], [6, 8]))


class DifferenceTest(unittest.TestCase):
    def test_empty_lists(self):
        graph = Graph(2, [])
        self.assertEqual((difference(graph, [], []), graph.ands), (0, []))

    def test_equal_lists(self):
        graph = Graph(2, [])
        self.assertEqual((difference(graph, [2, 5, 0, 1], [2, 5, 0, 1]), graph.ands), (0, []))
        self.assertEqual((difference(graph, [2, 4], [2, 5]), graph.ands), (1, []))

    def test_the_order_of_the_calls(self):
        one, two = Recorder(4), Recorder(4)
        found = 0
        for a, b in ((2, 4), (7, 8), (3, 0)):
            found = one.disjunction(found, one.exclusive(a, b))
        self.assertEqual(difference(two, [2, 7, 3], [4, 8, 0]), found)
        self.assertEqual(two.recorded, one.recorded)

    def test_values(self):
        graph = Graph(4, [])
        found = difference(graph, [2, 4], [6, 9])
        for row in bits(4):
            differs = row[0] != row[2] or row[1] != 1 - row[3]
            self.assertEqual(value(node_values(graph, row, []), found), int(differs))

    def test_arguments_do_not_change(self):
        first, second = [2], [4]
        difference(Graph(2, []), first, second)
        self.assertEqual((first, second), ([2], [4]))


class UnrollTest(unittest.TestCase):
    def pair(self):
        one = Graph(1, [0])
        one.set_next(0, 2)
        one.set_outputs([4])
        two = Graph(1, [0])
        two.set_next(0, 3)
        two.set_outputs([4])
        return one, two

    def test_the_example(self):
        one, two = self.pair()
        self.assertEqual((unroll(one, two, 1)[1], unroll(one, two, 2)[1]), (0, 1))

    def test_the_form_of_the_graph(self):
        one, two = self.pair()
        for cycles in (1, 2, 5):
            graph, _ = unroll(one, two, cycles)
            self.assertEqual(fields(graph), (cycles, [], [], []))

    def test_the_calls_stand_in_order(self):
        one = drawn_graph(3, inputs=3, registers=2, ands=6, outputs=2)
        two = drawn_graph(4, inputs=3, registers=1, ands=6, outputs=2)
        expected = Graph(9, [])
        states = [[initial for _, initial in graph.registers] for graph in (one, two)]
        for cycle in range(3):
            inputs = [2 + 6 * cycle, 4 + 6 * cycle, 6 + 6 * cycle]
            outputs = []
            for number, source in enumerate((one, two)):
                found, states[number] = copy_into(expected, source, inputs, states[number])
                outputs.append(found)
        literal = difference(expected, *outputs)
        graph, found = unroll(one, two, 3)
        self.assertEqual((fields(graph), found), (fields(expected), literal))

    def test_runs_of_both_graphs(self):
        for seed in range(40):
            one = drawn_graph(seed, inputs=1 + seed % 2, registers=seed % 3, ands=8, outputs=2)
            two = drawn_graph(seed + 1000, inputs=1 + seed % 2, registers=seed % 4, ands=8, outputs=2)
            before = fields(one), fields(two)
            for cycles in range(1, 5):
                graph, literal = unroll(one, two, cycles)
                for row in bits(graph.inputs):
                    rows = [row[cycle * one.inputs:(cycle + 1) * one.inputs] for cycle in range(cycles)]
                    values = node_values(graph, row, [])
                    self.assertEqual(rows_of(values, one.inputs, cycles), rows)
                    differs = run(one, rows)[-1] != run(two, rows)[-1]
                    self.assertEqual(value(values, literal), int(differs))
            self.assertEqual((fields(one), fields(two)), before)

    def test_graphs_without_inputs_or_outputs(self):
        one, two = Graph(0, [0]), Graph(0, [1])
        self.assertEqual(unroll(one, two, 2)[1], 0)
        one.set_outputs([2])
        two.set_outputs([2])
        self.assertEqual(unroll(one, two, 2)[1], 1)

    def test_too_many_nodes(self):
        one = Graph(100, [])
        self.assertIsNone(failure(unroll, one, one, 39))
        self.assertEqual(failure(unroll, one, one, 40), ("Unbounded", "graph"))


class RowsTest(unittest.TestCase):
    def test_rows(self):
        self.assertEqual(rows_of([0, 1, 0, 1, 1, 0, 0, 9, 9], 2, 3), [[1, 0], [1, 1], [0, 0]])
        self.assertEqual(rows_of([0, 1, 0, 1], 3, 1), [[1, 0, 1]])
        self.assertEqual(rows_of([0, 5], 0, 3), [[], [], []])

    def test_the_assignment_does_not_change(self):
        assignment = [0, 1, 0]
        rows = rows_of(assignment, 1, 2)
        rows[0].append(7)
        self.assertEqual(assignment, [0, 1, 0])


if __name__ == "__main__":
    unittest.main()
