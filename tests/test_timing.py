import unittest

from clockwright.cells import read_library
from clockwright.netlist import Netlist
from clockwright.timing import arrivals, critical_path, ends, least_period, slacks
from drawn_netlists import drawn_library, drawn_netlist, netlist_fields

LIBRARY = read_library("flop 1 2\ncell inv 10 2 1\ncell nand 1110 3 2 3\ncell mux 00110101 9 7 4 1\n")
LATE = read_library("flop 9 0\ncell inv 10 2 99\n")


def example():
    return Netlist(LIBRARY, 2, [(6, 1)], [(1, (2, 4)), (0, (5,))], [5])


def arrival(netlist, net):
    """Point I2 read word by word."""
    if net < netlist.first_register():
        return 0
    if net < netlist.first_gate():
        return netlist.library.flop_delay
    index, pins = netlist.gates[net - netlist.first_gate()]
    delays = netlist.library.cells[index].delays
    found = [arrival(netlist, pin) + delays[place] for place, pin in enumerate(pins) if pin not in (0, 1)]
    return max(found) if found else 0


class ArrivalsTest(unittest.TestCase):
    def test_the_example(self):
        netlist = example()
        self.assertEqual((arrivals(netlist), least_period(netlist), critical_path(netlist)),
                         ([0, 0, 0, 0, 2, 5, 6], 7, [4, 5, 6]))

    def test_constants_inputs_and_registers(self):
        self.assertEqual(arrivals(Netlist(LIBRARY, 2, [(0, 0), (1, 1)], [], [])), [0, 0, 0, 0, 2, 2])
        self.assertEqual(arrivals(Netlist(LATE, 0, [(0, 0)], [(0, (2,))], [])), [0, 0, 0, 99])
        self.assertEqual(arrivals(Netlist(LIBRARY, 0, [], [], [])), [0, 0])

    def test_each_pin_has_its_delay(self):
        gates = [(1, (2, 3)), (2, (2, 2, 2)), (2, (4, 2, 5)), (1, (5, 4)), (0, (7,))]
        self.assertEqual(arrivals(Netlist(LIBRARY, 2, [], gates, [])), [0, 0, 0, 0, 3, 7, 10, 9, 10])

    def test_constant_pins_do_not_count(self):
        gates = [(1, (2, 0)), (1, (1, 2)), (2, (1, 2, 0)), (1, (0, 1)), (1, (6, 6)), (0, (1,))]
        self.assertEqual(arrivals(Netlist(LIBRARY, 1, [], gates, [])), [0, 0, 0, 2, 3, 4, 0, 3, 0])

    def test_a_net_at_several_pins(self):
        self.assertEqual(arrivals(Netlist(LIBRARY, 1, [], [(2, (2, 2, 2)), (2, (0, 3, 3))], [])), [0, 0, 0, 7, 11])

    def test_drawn_netlists(self):
        for seed in range(60):
            netlist = drawn_netlist(seed, registers=seed % 4, gates=8)
            before = netlist_fields(netlist)
            self.assertEqual(arrivals(netlist), [arrival(netlist, net) for net in range(netlist.net_count())])
            self.assertEqual(netlist_fields(netlist), before)


class EndsTest(unittest.TestCase):
    def test_registers_come_first(self):
        netlist = Netlist(LIBRARY, 1, [(4, 0), (2, 1), (5, 0)], [(0, (2,))], [3, 6, 3, 0])
        self.assertEqual(ends(netlist), [4, 2, 5, 3, 6, 3, 0])
        ends(netlist).append(9)
        self.assertEqual(netlist_fields(netlist), (1, [(4, 0), (2, 1), (5, 0)], [(0, (2,))], [3, 6, 3, 0]))
        self.assertEqual(ends(Netlist(LIBRARY, 1, [], [(0, (2,))], [])), [])

    def test_slacks(self):
        netlist = example()
        self.assertEqual(slacks(netlist, 7), [0, 1])
        self.assertEqual(slacks(netlist, 5), [-2, -1])
        self.assertEqual(slacks(netlist, 100), [93, 94])
        self.assertEqual(slacks(Netlist(LATE, 1, [(2, 0)], [], [3, 0, 2]), 10), [1, 1, 1, 1])
        self.assertEqual(slacks(Netlist(LIBRARY, 1, [], [], []), 3), [])

    def test_the_least_period(self):
        self.assertEqual(least_period(Netlist(LIBRARY, 1, [], [(0, (2,))], [])), 1)
        self.assertEqual(least_period(Netlist(LATE, 0, [], [], [])), 9)
        self.assertEqual(least_period(Netlist(LATE, 1, [], [(0, (2,))], [2])), 9)
        self.assertEqual(least_period(Netlist(LATE, 1, [], [(0, (2,))], [2, 3])), 108)
        self.assertEqual(least_period(Netlist(LATE, 1, [(3, 0)], [(0, (2,))], [])), 9)
        self.assertEqual(least_period(Netlist(LATE, 1, [(4, 0)], [(0, (2,))], [])), 108)
        self.assertEqual(least_period(Netlist(LIBRARY, 0, [(2, 0)], [], [])), 3)

    def test_the_least_period_is_the_smallest_one(self):
        for seed in range(60):
            netlist = drawn_netlist(seed, registers=seed % 3, outputs=1 + seed % 2)
            least = least_period(netlist)
            self.assertEqual(min(slacks(netlist, least)), 0)
            self.assertEqual(min(slacks(netlist, least - 1)), -1)


class PathTest(unittest.TestCase):
    def check(self, netlist):
        times = arrivals(netlist)
        path = critical_path(netlist)
        if not ends(netlist):
            self.assertEqual(path, [])
            return
        self.assertIn(path[-1], ends(netlist))
        self.assertEqual(times[path[-1]], max(times[net] for net in ends(netlist)))
        if path[0] >= netlist.first_gate():
            self.assertTrue(set(netlist.gates[path[0] - netlist.first_gate()][1]) <= {0, 1})
        for before, net in zip(path, path[1:]):
            index, pins = netlist.gates[net - netlist.first_gate()]
            delays = netlist.library.cells[index].delays
            steps = [delay for pin, delay in zip(pins, delays) if pin == before]
            self.assertIn(times[net] - times[before], steps)

    def test_no_ends(self):
        self.assertEqual(critical_path(Netlist(LIBRARY, 1, [], [(0, (2,))], [])), [])

    def test_single_nets(self):
        for net in (0, 1, 2, 4):
            netlist = Netlist(LIBRARY, 1, [], [(0, (2,)), (1, (0, 1))], [net])
            self.assertEqual(critical_path(netlist), [net])
        # the register arrives later than the other ends
        netlist = Netlist(LIBRARY, 1, [(2, 0)], [(1, (0, 1))], [0, 4, 3, 2])
        self.assertEqual(critical_path(netlist), [3])

    def test_any_end_of_several_equal_ones(self):
        netlist = Netlist(LIBRARY, 2, [], [(0, (2,)), (0, (3,))], [0, 4, 5])
        self.check(netlist)

    def test_a_path_begins_at_a_gate_with_constant_pins(self):
        netlist = Netlist(LIBRARY, 0, [], [(1, (0, 1)), (0, (2,)), (1, (3, 0))], [4])
        self.assertEqual(critical_path(netlist), [2, 3, 4])
        self.check(netlist)

    def test_constant_pins_are_not_on_the_path(self):
        # the pin with the delay 3 is constant, so that with the delay 2 counts
        netlist = Netlist(LIBRARY, 1, [], [(0, (2,)), (1, (3, 0))], [4])
        self.assertEqual(critical_path(netlist), [2, 3, 4])

    def test_drawn_netlists(self):
        for seed in range(150):
            library = drawn_library(seed, longest=1 + seed % 4)
            self.check(drawn_netlist(seed, library, inputs=seed % 3, registers=seed % 4, gates=seed % 20, outputs=seed % 5))

    def test_long_paths(self):
        netlist = Netlist(LIBRARY, 1, [], [(0, (2 + place,)) for place in range(5000)], [5002])
        self.assertEqual((least_period(netlist), critical_path(netlist)), (5001, list(range(2, 5003))))


if __name__ == "__main__":
    unittest.main()
