import random
import unittest

from clockwright.cells import Cell, Library, read_library
from clockwright.graph import Graph, run_resets, step
from clockwright.netlist import Netlist, netlist_graph, netlist_text, run_netlist
from clockwright.rewrite import build_tree
from drawn_graphs import bits, fields
from drawn_netlists import drawn_library, drawn_netlist, drawn_rows, netlist_fields
from helpers import failure

LIBRARY = read_library("flop 1 2\ncell inv 10 2 1\ncell nand 1110 3 2 2\ncell andn 0100 5 1 1\n")


def example():
    return Netlist(LIBRARY, 2, [(6, 1)], [(1, (2, 3)), (0, (5,))], [5, 4])


class NetlistTest(unittest.TestCase):
    def test_the_example(self):
        netlist = example()
        self.assertEqual((netlist.area(), netlist.step([1, 1], [1])), (5, ([0, 1], [1])))
        self.assertEqual(netlist_text(netlist),
                         "inputs 2\nregister 6 1\ngate nand 2 3\ngate inv 5\noutput 5\noutput 4\n")

    def test_fields(self):
        netlist = example()
        self.assertIs(netlist.library, LIBRARY)
        self.assertEqual(netlist_fields(netlist), (2, [(6, 1)], [(1, (2, 3)), (0, (5,))], [5, 4]))

    def test_the_lists_are_copied(self):
        registers, gates, outputs = [(2, 0)], [(0, (2,))], [3]
        netlist = Netlist(LIBRARY, 0, registers, gates, outputs)
        registers.append((2, 1))
        gates.append((0, (3,)))
        outputs[0] = 2
        self.assertEqual(netlist_fields(netlist), (0, [(2, 0)], [(0, (2,))], [3]))

    def test_methods_stand_in_the_class(self):
        for name in ("net_count", "first_register", "first_gate", "area", "initial_state", "net_values", "step"):
            self.assertIn(name, vars(Netlist))

    def test_the_numbers_of_nets(self):
        netlist = example()
        self.assertEqual((netlist.first_register(), netlist.first_gate(), netlist.net_count()), (4, 5, 7))

    def test_the_numbers_of_nets_without_some_groups(self):
        for inputs in (0, 3):
            for registers in ([], [(0, 1), (1, 0)]):
                for gates in ([], [(0, (1,)), (1, (0, 1))]):
                    netlist = Netlist(LIBRARY, inputs, registers, gates, [])
                    first = 2 + inputs
                    self.assertEqual(netlist.first_register(), first)
                    self.assertEqual(netlist.first_gate(), first + len(registers))
                    self.assertEqual(netlist.net_count(), first + len(registers) + len(gates))
                    self.assertEqual(len(netlist.net_values([0] * inputs, [0] * len(registers))), netlist.net_count())

    def test_the_empty_netlist(self):
        netlist = Netlist(LIBRARY, 0, [], [], [])
        self.assertEqual((netlist.area(), netlist.initial_state(), netlist.step([], [])), (0, [], ([], [])))
        self.assertEqual(netlist.net_values([], []), [0, 1])

    def test_area(self):
        self.assertEqual(Netlist(LIBRARY, 1, [], [(2, (2, 2)), (0, (2,)), (0, (3,)), (1, (0, 0))], []).area(), 12)

    def test_initial_state_is_a_new_list(self):
        netlist = Netlist(LIBRARY, 0, [(0, 1), (1, 0)], [], [])
        netlist.initial_state().append(1)
        self.assertEqual(netlist.initial_state(), [1, 0])


class ValuesTest(unittest.TestCase):
    def test_net_values_by_hand(self):
        netlist = Netlist(LIBRARY, 2, [(0, 0)], [(1, (2, 4)), (0, (5,)), (2, (3, 6)), (1, (7, 7)), (0, (1,)), (1, (0, 3))], [])
        # andn is 1 where its first pin is 1 and its second one 0
        self.assertEqual(netlist.net_values([1, 1], [1]), [0, 1, 1, 1, 1, 0, 1, 0, 1, 0, 1])
        self.assertEqual(netlist.net_values([0, 1], [1]), [0, 1, 0, 1, 1, 1, 0, 1, 0, 0, 1])

    def test_arguments_do_not_change_and_are_not_shared(self):
        netlist = Netlist(LIBRARY, 1, [(2, 0)], [(0, (2,))], [4])
        row, state = [1], [0]
        netlist.net_values(row, state).append(9)
        outputs, after = netlist.step(row, state)
        outputs.append(9)
        after.append(9)
        self.assertEqual((row, state, netlist.step(row, state)), ([1], [0], ([0], [1])))

    def test_drawn_netlists_by_the_rows_of_their_tables(self):
        for seed in range(40):
            netlist = drawn_netlist(seed)
            for row in bits(3):
                for state in bits(2):
                    values = [0, 1] + row + state
                    for index, pins in netlist.gates:
                        cell = netlist.library.cells[index]
                        place = sum(values[net] * 2 ** pin for pin, net in enumerate(pins))
                        values.append(cell.table // 2 ** place % 2)
                    self.assertEqual(netlist.net_values(row, state), values)
                    self.assertEqual(netlist.step(row, state),
                                     ([values[net] for net in netlist.outputs], [values[net] for net, _ in netlist.registers]))


class RunTest(unittest.TestCase):
    def counter(self):
        """A register that changes with every cycle in which the input is 1, and begins with 1."""
        xor = Library([Cell("xor", 6, 2, 1, (1, 1))], 1, 0)
        return Netlist(xor, 1, [(4, 1)], [(0, (2, 3))], [3, 4])

    def test_resets(self):
        rows = [[1]] * 4
        cases = {
            (0, 0, 0, 0): [[1, 0], [0, 1], [1, 0], [0, 1]],
            (1, 0, 0, 0): [[1, 0], [1, 0], [0, 1], [1, 0]],
            (0, 1, 0, 0): [[1, 0], [0, 1], [1, 0], [0, 1]],
            (1, 1, 0, 0): [[1, 0], [1, 0], [1, 0], [0, 1]],
            (0, 0, 1, 0): [[1, 0], [0, 1], [1, 0], [1, 0]],
            (0, 0, 0, 1): [[1, 0], [0, 1], [1, 0], [0, 1]],
        }
        for resets, outputs in cases.items():
            self.assertEqual(run_netlist(self.counter(), rows, list(resets)), outputs)

    def test_runs_of_no_cycles(self):
        self.assertEqual(run_netlist(self.counter(), [], []), [])

    def test_runs_without_outputs_and_inputs(self):
        self.assertEqual(run_netlist(Netlist(LIBRARY, 0, [(2, 1)], [], []), [[], []], [0, 1]), [[], []])
        self.assertEqual(run_netlist(Netlist(LIBRARY, 0, [], [], [0, 1]), [[], []], [0, 1]), [[0, 1], [0, 1]])

    def test_arguments_do_not_change(self):
        rows, resets = [[1], [0]], [1, 0]
        run_netlist(self.counter(), rows, resets)
        self.assertEqual((rows, resets), ([[1], [0]], [1, 0]))


class GraphTest(unittest.TestCase):
    def test_the_literals_are_those_of_build_tree(self):
        for seed in range(40):
            netlist = drawn_netlist(seed, gates=15)
            graph = Graph(3, [initial for _, initial in netlist.registers])
            literals = [0, 1, 2, 4, 6, 8, 10]
            for index, pins in netlist.gates:
                literals.append(build_tree(graph, netlist.library.cells[index].table, [literals[net] for net in pins]))
            graph.set_next(0, literals[netlist.registers[0][0]])
            graph.set_next(1, literals[netlist.registers[1][0]])
            graph.set_outputs([literals[net] for net in netlist.outputs])
            before = netlist_fields(netlist)
            self.assertEqual(fields(netlist_graph(netlist)), fields(graph))
            self.assertEqual(netlist_fields(netlist), before)

    def test_the_graph_has_the_values_of_the_netlist(self):
        for seed in range(60):
            netlist = drawn_netlist(seed, gates=12)
            graph = netlist_graph(netlist)
            for row in bits(3):
                for state in bits(2):
                    self.assertEqual(step(graph, row, state), netlist.step(row, state))

    def test_the_graph_runs_as_the_netlist_does(self):
        for seed in range(60):
            netlist = drawn_netlist(seed, inputs=2, registers=4, gates=14)
            rows, resets = drawn_rows(seed, netlist, 12)
            self.assertEqual(run_resets(netlist_graph(netlist), rows, resets), run_netlist(netlist, rows, resets))

    def test_constants_and_ends_without_gates(self):
        graph = netlist_graph(Netlist(LIBRARY, 1, [(1, 1), (2, 0), (4, 1)], [], [0, 1, 2, 3]))
        self.assertEqual(fields(graph), (1, [(1, 1), (2, 0), (6, 1)], [], [0, 1, 2, 4]))
        self.assertEqual(fields(netlist_graph(Netlist(LIBRARY, 0, [], [], []))), (0, [], [], []))

    def test_too_many_nodes(self):
        self.assertEqual(failure(netlist_graph, Netlist(LIBRARY, 4000, [], [], [])), ("Unbounded", "graph"))
        self.assertIsNone(failure(netlist_graph, Netlist(LIBRARY, 3999, [], [], [])))
        gates = [(1, (2 + 2 * index, 3 + 2 * index)) for index in range(1334)]
        self.assertIsNone(failure(netlist_graph, Netlist(LIBRARY, 2666, [], gates[:1333], [])))
        self.assertEqual(failure(netlist_graph, Netlist(LIBRARY, 2668, [], gates, [])), ("Unbounded", "graph"))

    def test_many_gates_that_share_their_nodes(self):
        library = drawn_library(3, cells=3)
        library.cells.append(Cell("odd", 0x6996, 4, 1, (1, 1, 1, 1)))
        drawn = random.Random(8)
        gates = [(3, tuple(drawn.randrange(6) for _ in range(4))) for _ in range(20000)]
        self.assertLess(len(netlist_graph(Netlist(library, 4, [], gates, [])).ands), 1000)


if __name__ == "__main__":
    unittest.main()
