import unittest

from clockwright.cells import Cell, Library, read_library
from clockwright.delays import changes, run_delayed
from clockwright.netlist import Netlist, run_netlist
from clockwright.timing import arrivals, least_period
from drawn_netlists import drawn_library, drawn_netlist, drawn_rows, netlist_fields
from helpers import failure

LIBRARY = read_library("flop 1 2\ncell inv 10 2 1\ncell nand 1110 3 2 2\n")


class Reckoning:
    """Points I1 and DL1 to DL3 read word by word: the value of each net at each time."""

    def __init__(self, netlist, sources):
        self.netlist = netlist
        self.sources = sources
        self.known = {}

    def value(self, net, time):
        if net < 2:
            return net
        if net < self.netlist.first_gate():
            return self.sources(net, time)
        # all sources have their first values before the time 0
        time = max(time, -1000)
        if (net, time) not in self.known:
            index, pins = self.netlist.gates[net - self.netlist.first_gate()]
            cell = self.netlist.library.cells[index]
            before = cell.delays if time > -1000 else (0,) * cell.pins
            self.known[net, time] = cell.output(
                [self.value(pin, time - delay) for pin, delay in zip(pins, before)])
        return self.known[net, time]


def reckoned_run(netlist, rows, resets, period):
    states = [netlist.initial_state()]
    setup, flop_delay = netlist.library.setup, netlist.library.flop_delay

    def source(net, time):
        if net < netlist.first_register():
            cycle = min(max(time // period, 0), len(rows) - 1)
            return rows[cycle][net - 2]
        return states[max((time - flop_delay) // period, 0)][net - netlist.first_register()]

    reckoning = Reckoning(netlist, source)
    found = []
    for cycle, reset in enumerate(resets):
        time = (cycle + 1) * period - setup
        found.append([reckoning.value(net, time) for net in netlist.outputs])
        after = [reckoning.value(net, time) for net, _ in netlist.registers]
        states.append(netlist.initial_state() if reset else after)
    return found


def reckoned_changes(netlist, old_row, old_state, new_row, new_state):
    flop_delay = netlist.library.flop_delay
    old, new = old_row + old_state, new_row + new_state

    def source(net, time):
        begins = 0 if net < netlist.first_register() else flop_delay
        return (new if time >= begins else old)[net - 2]

    reckoning = Reckoning(netlist, source)
    found = []
    for net in range(netlist.net_count()):
        values = [(time, reckoning.value(net, time)) for time in range(-1, 300)]
        found.append([two for one, two in zip(values, values[1:]) if one[1] != two[1]])
    return found


class RunDelayedTest(unittest.TestCase):
    def test_the_example(self):
        netlist = Netlist(LIBRARY, 1, [], [(0, (2,)), (1, (2, 3))], [4])
        self.assertEqual(changes(netlist, [0], [], [1], []), [[], [], [(0, 1)], [(1, 0)], [(2, 0), (3, 1)]])
        self.assertEqual(run_delayed(netlist, [[0], [1], [1]], [0, 0, 0], 3), [[1], [0], [1]])

    def test_runs_of_no_cycles(self):
        self.assertEqual(run_delayed(Netlist(LIBRARY, 1, [(2, 0)], [], [3]), [], [], 5), [])

    def test_before_all_changes(self):
        # the first row has been there for ever, so a first cycle is never too short
        for seed in range(20):
            netlist = drawn_netlist(seed, gates=12)
            rows, resets = drawn_rows(seed, netlist, 1)
            for period in (1, 2, 50):
                self.assertEqual(run_delayed(netlist, rows, resets, period), run_netlist(netlist, rows, resets))

    def test_setups(self):
        # an input that changes is seen if it is there `setup` before the end of the cycle
        netlist = Netlist(Library([], 3, 0), 1, [(2, 0)], [], [2, 3])
        rows = [[0], [1], [0], [1]]
        self.assertEqual(run_delayed(netlist, rows, [0] * 4, 3), [[0, 0], [1, 0], [0, 1], [1, 0]])
        self.assertEqual(run_delayed(netlist, rows, [0] * 4, 2), [[0, 0], [0, 0], [1, 0], [0, 0]])
        self.assertEqual(run_delayed(netlist, rows, [0] * 4, 1), [[0, 0], [0, 0], [0, 0], [1, 0]])

    def test_delays_of_registers(self):
        # the register is a cycle late, and its output 2 more
        netlist = Netlist(Library([], 1, 2), 1, [(2, 0)], [], [3])
        rows = [[1], [0], [0], [1], [1]]
        self.assertEqual(run_delayed(netlist, rows, [0] * 5, 3), [[0], [1], [0], [0], [1]])
        self.assertEqual(run_delayed(netlist, rows, [0] * 5, 2), [[0], [0], [1], [0], [0]])

    def test_resets(self):
        netlist = Netlist(LIBRARY, 1, [(3, 1), (2, 0)], [], [3, 4])
        rows = [[1], [1], [1], [1]]
        for resets in ([0] * 4, [1, 0, 0, 0], [0, 1, 0, 0], [0, 0, 0, 1], [1, 1, 1, 1]):
            for period in (3, 4, 10):
                self.assertEqual(run_delayed(netlist, rows, resets, period), run_netlist(netlist, rows, resets))
        self.assertEqual(run_delayed(netlist, rows, [0, 1, 0, 0], 3), [[1, 0], [1, 1], [1, 0], [1, 1]])

    def test_periods_that_suffice(self):
        for seed in range(80):
            library = drawn_library(seed, longest=5)
            netlist = drawn_netlist(seed, library, inputs=seed % 4, registers=seed % 5, gates=4 + seed % 20)
            rows, resets = drawn_rows(seed, netlist, 8)
            least = least_period(netlist)
            for period in (least, least + 1, least + 2 + seed % 7, 3 * least):
                self.assertEqual(run_delayed(netlist, rows, resets, period), run_netlist(netlist, rows, resets))

    def test_any_periods_by_the_reckoning(self):
        differ = 0
        for seed in range(60):
            library = drawn_library(seed, longest=6, setup=1 + seed % 9)
            netlist = drawn_netlist(seed, library, inputs=2, registers=1 + seed % 3, gates=4 + seed % 12)
            rows, resets = drawn_rows(seed, netlist, 7)
            for period in sorted({1, 2, 3, 5, max(1, least_period(netlist) - 1), least_period(netlist)}):
                found = run_delayed(netlist, rows, resets, period)
                self.assertEqual(found, reckoned_run(netlist, rows, resets, period))
                differ += found != run_netlist(netlist, rows, resets)
        self.assertGreater(differ, 50)

    def test_long_periods(self):
        netlist = drawn_netlist(4)
        rows, resets = drawn_rows(4, netlist, 20)
        self.assertEqual(run_delayed(netlist, rows, resets, 10 ** 12), run_netlist(netlist, rows, resets))

    def test_arguments_do_not_change(self):
        netlist = drawn_netlist(4)
        before = netlist_fields(netlist)
        rows, resets = drawn_rows(4, netlist, 5)
        kept = [list(row) for row in rows], list(resets)
        run_delayed(netlist, rows, resets, 9).append(1)
        changes(netlist, rows[0], [0, 1], rows[1], [1, 0])[0].append(1)
        self.assertEqual((rows, resets, netlist_fields(netlist)), (*kept, before))


class ChangesTest(unittest.TestCase):
    def test_sources(self):
        netlist = Netlist(Library([], 1, 4), 2, [(0, 0), (0, 0)], [], [])
        self.assertEqual(changes(netlist, [0, 1], [1, 1], [1, 1], [0, 1]), [[], [], [(0, 1)], [], [(4, 0)], []])
        at_once = Netlist(Library([], 1, 0), 1, [(0, 0)], [], [])
        self.assertEqual(changes(at_once, [1], [0], [0], [1]), [[], [], [(0, 0)], [(0, 1)]])

    def test_nothing_changes(self):
        netlist = drawn_netlist(3)
        self.assertEqual(changes(netlist, [0, 1, 1], [1, 0], [0, 1, 1], [1, 0]), [[]] * netlist.net_count())

    def test_a_net_that_changes_back(self):
        # the exclusive or sees the input at once and again 3 later
        library = Library([Cell("xor", 6, 2, 1, (1, 1)), Cell("buf", 2, 1, 1, (3,))], 1, 1)
        netlist = Netlist(library, 1, [], [(1, (2,)), (0, (2, 3)), (0, (3, 2)), (0, (4, 5))], [])
        self.assertEqual(changes(netlist, [0], [], [1], []),
                         [[], [], [(0, 1)], [(3, 1)], [(1, 1), (4, 0)], [(1, 1), (4, 0)], []])

    def test_pins_that_change_at_the_same_time(self):
        library = Library([Cell("xor", 6, 2, 1, (2, 5)), Cell("buf", 2, 1, 1, (3,))], 1, 1)
        netlist = Netlist(library, 1, [], [(1, (2,)), (0, (3, 2)), (0, (2, 3))], [])
        # both pins of the first gate change at the time 5, those of the second one at 2 and 8
        self.assertEqual(changes(netlist, [0], [], [1], [])[3:], [[(3, 1)], [], [(2, 1), (8, 0)]])

    def test_by_the_reckoning(self):
        for seed in range(60):
            library = drawn_library(seed, longest=5)
            netlist = drawn_netlist(seed, library, gates=4 + seed % 16)
            rows, _ = drawn_rows(seed, netlist, 2)
            states = [[seed % 2, seed // 2 % 2], [seed // 4 % 2, seed // 8 % 2]]
            found = changes(netlist, rows[0], states[0], rows[1], states[1])
            self.assertEqual(found, reckoned_changes(netlist, rows[0], states[0], rows[1], states[1]))
            self.check_facts(netlist, found, (rows[0], states[0]), (rows[1], states[1]))

    def check_facts(self, netlist, found, old, new):
        before, after = netlist.net_values(*old), netlist.net_values(*new)
        for net, last in enumerate(arrivals(netlist)):
            self.assertTrue(all(time <= last for time, _ in found[net]))
            self.assertEqual([value for _, value in found[net]], [1 - before[net], before[net]] * (len(found[net]) // 2)
                             + [after[net]] * (len(found[net]) % 2))
            self.assertEqual(found[net][-1][1] if found[net] else before[net], after[net])

    def ladder(self, many):
        """A net that changes as often as the input changes at so many different times, and one that reads it."""
        library = Library([Cell("xor", 6, 2, 1, (1, 1)), Cell("buf", 2, 1, 1, (3,))], 1, 1)
        gates = []
        late, sum_net = 2, 2
        for _ in range(many):
            gates.append((1, (late,)))
            late = 2 + len(gates)
            gates.append((0, (late, sum_net)))
            sum_net = 2 + len(gates)
        return Netlist(library, 1, [], gates, [sum_net])

    def doubling(self, stages):
        """Gates each of which changes twice as often as the one before it."""
        library = Library([Cell(f"x{stage}", 6, 2, 1, (1, 1 + 2 ** stage)) for stage in range(stages)], 1, 0)
        return Netlist(library, 1, [], [(stage, (2 + stage, 2 + stage)) for stage in range(stages)], [])

    def test_the_number_of_changes(self):
        found = changes(self.doubling(9), [0], [], [1], [])
        self.assertEqual([len(times) for times in found], [0, 0] + [2 ** stage for stage in range(10)])
        self.assertEqual(failure(changes, self.doubling(10), [0], [], [1], []), ("Unbounded", "changes"))
        self.assertEqual(failure(changes, self.doubling(20), [0], [], [1], []), ("Unbounded", "changes"))
        self.assertIsNone(failure(changes, self.doubling(20), [0], [], [0], []))

    def test_1000_and_1001_changes(self):
        # the sum of pulses that do not meet has as many changes as all of them together
        cells = [Cell(f"x{stage}", 6, 2, 1, (1, 1 + 2 ** stage)) for stage in range(9)]
        cells += [Cell(f"sum{many}", 6, 2, 1, (1, 1000 * many)) for many in range(1, 20)]
        counts = [2 ** stage for stage in range(10)]
        chosen = [9, 8, 7, 6, 5, 3]
        self.assertEqual(sum(counts[stage] for stage in chosen), 1000)
        gates = [(stage, (2 + stage, 2 + stage)) for stage in range(9)]
        last = 2 + chosen[0]
        for many, stage in enumerate(chosen[1:], 1):
            gates.append((8 + many, (last, 2 + stage)))
            last = 2 + len(gates)
        netlist = Netlist(Library(cells, 1, 0), 1, [], gates, [])
        self.assertEqual(len(changes(netlist, [0], [], [1], [])[last]), 1000)
        gates.append((20, (last, 2)))
        netlist = Netlist(Library(cells, 1, 0), 1, [], gates, [])
        self.assertEqual(failure(changes, netlist, [0], [], [1], []), ("Unbounded", "changes"))

    def test_many_changes_of_a_run(self):
        netlist = self.ladder(150)
        rows, resets = [[0], [1], [0]], [0, 0, 0]
        least = least_period(netlist)
        self.assertEqual(run_delayed(netlist, rows, resets, least), run_netlist(netlist, rows, resets))
        netlist = self.doubling(11)
        netlist.outputs.extend(range(3, 13))
        self.assertEqual(run_delayed(netlist, rows, resets, 3000), run_netlist(netlist, rows, resets))


if __name__ == "__main__":
    unittest.main()
