import copy
import unittest

from clockwright.flat import design_of
from clockwright.simulate import SETTLE, Simulation, simulate
from drawn_designs import DrawnDesign
from helpers import failure


def design_with(text, others=""):
    return design_of(f"unit t() {text} end {others}", top="t")


def simulation_of(text, choices=()):
    return Simulation(design_with(text), choices=choices)


def outputs_of(text, stimulus, choices=()):
    return simulate(design_with(text), stimulus, choices=choices)


class StartTest(unittest.TestCase):
    def test_values_before_the_first_cycle(self):
        simulation = simulation_of("in a[2]; out b[3]; wire c; reg r[2] = 1; var v[2]; b[1] = a[0]; tick { r <- a; }")
        self.assertEqual(simulation.state, {"a": "xx", "b": "zxz", "c": "z", "r": "xx", "v": "xx"})
        self.assertEqual(simulation.cycle, 0)

    def test_driven_bits_start_as_x(self):
        state = simulation_of("wire a[4]; wire b[2]; out c; wire d[3]; {a[3:2], b} = 5; a[0] = 1; d = 1;").state
        self.assertEqual(state, {"a": "xxzx", "b": "xx", "c": "z", "d": "xxx"})

    def test_wide_signals(self):
        state = simulation_of("in a[64]; wire b[64]; out c[64]; wire d[64]; b = a; c[62:0] = a; {d[0], d[63:1]} = 1;").state
        self.assertEqual(state, {"a": "x" * 64, "b": "x" * 64, "c": "z" + "x" * 63, "d": "x" * 64})

    def test_wires_of_instances(self):
        design = design_with("use u = s()();", "unit s() in a; out b; out c[2]; c[1] = b; end")
        self.assertEqual(Simulation(design).state, {"u.a": "z", "u.b": "z", "u.c": "xz"})

    def test_undriven_bits_stay_z(self):
        text = "in a; out q[3]; wire w; out p; q[1] = a; p = w; reg r; tick { r <- a; }"
        outputs = outputs_of(text, [(1, ("1",)), (0, ("0",)), (0, ("z",))])
        self.assertEqual(outputs, [("z1z", "z"), ("z0z", "z"), ("zzz", "z")])

    def test_at_first_all_things_are_ready(self):
        text = "in a; wire b; wire c; var v; b = 1; c = 0; when { v = 1; } when { }"
        simulation = simulation_of(text)
        self.assertEqual(simulation.settle(), 4)
        self.assertEqual(simulation.state, {"a": "x", "b": "1", "c": "0", "v": "1"})
        self.assertEqual(simulation.settle(), 0)

    def test_an_empty_design(self):
        self.assertEqual(outputs_of("", [(0, ()), (1, ())]), [(), ()])
        self.assertEqual(Simulation(design_with("")).settle(), 0)


class ThingsTest(unittest.TestCase):
    def woken(self, text, name, vector):
        """How many things run when an input changes after everything has settled."""
        design = design_with(text)
        simulation = Simulation(design)
        simulation.run_cycle(["0"] * len(design.inputs()), reset=1)
        simulation.settle()
        runs = []
        settle = simulation.settle
        simulation.settle = lambda: runs.append(settle())
        simulation.run_cycle([vector if each == name else "0" for each in design.inputs()], reset=1)
        return runs[0]

    def test_things_that_read_a_changed_input_run(self):
        text = "in a; in b; wire c; wire d; wire e; c = a; d = b; e = a & b;"
        self.assertEqual(self.woken(text, "a", "1"), 2)
        self.assertEqual(self.woken(text, "b", "x"), 2)
        self.assertEqual(self.woken(text, "a", "0"), 0)

    def test_only_changes_are_passed_on(self):
        text = "in a; in b; wire w; wire v; w = a & b; v = w; out q; q = ~v;"
        self.assertEqual(self.woken(text, "a", "1"), 1)
        self.assertEqual(self.woken("in a; wire w; wire v; w = a; v = w; out q; q = ~v;", "a", "1"), 3)

    def test_a_change_is_one_of_the_whole_signal(self):
        # the drive reads the bit 0 of w alone, but w is one signal
        self.assertEqual(self.woken("in a; wire w[2]; w[1] = a; w[0] = 0; out q; q = w[0];", "a", "1"), 2)

    def test_indexes_and_arguments_are_read(self):
        self.assertEqual(self.woken("in a; in b; out q; q = a[b];", "b", "1"), 1)
        self.assertEqual(self.woken("in a; out q; func f(x) { give x; } q = f(a);", "a", "1"), 1)

    def test_when_processes_read_what_their_block_reads(self):
        text = "in a; in b; in c[1]; var v[2]; when { if a { v = 0; } else { v[b] = 1; v = 3; } }"
        self.assertEqual([self.woken(text, name, "1") for name in "abc"], [1, 1, 0])
        text = "in a; in b; in c; var v; when { case a { 1: { v = b; } else { v = c; } } }"
        self.assertEqual([self.woken(text, name, "1") for name in "abc"], [1, 1, 1])

    def test_when_processes_do_not_read_what_they_assign(self):
        text = "in a; var v; var w; when { v = a; w = v; v = ~v; } out q; q = w;"
        self.assertEqual(self.woken(text, "a", "1"), 2)
        simulation = simulation_of("var v; when { v = ~v; }")
        self.assertEqual(simulation.settle(), 1)

    def test_a_process_wakes_by_what_it_changed_in_the_end(self):
        self.assertEqual(self.woken("in a; var v; when { v = a; v = 0; } out q; q = v;", "a", "1"), 1)
        self.assertEqual(self.woken("in a; var v; when { v = a; } out q; q = v;", "a", "1"), 2)

    def test_processes_wake_each_other(self):
        text = "in a; var v; var w; when { w = v; } when { v = a; } out q; q = w;"
        self.assertEqual(self.woken(text, "a", "1"), 3)

    def test_a_drive_that_reads_what_it_drives(self):
        text = "in a; wire w[4]; w = a ? (w < 5 ? w + 1 : w) : 0; out q[4]; q = w;"
        simulation = simulation_of(text)
        self.assertEqual(simulation.run_cycle(["0"], reset=1), ("0000",))
        self.assertEqual(simulation.run_cycle(["1"], reset=1), ("0101",))

    def test_runs_of_a_drive_that_reads_what_it_drives(self):
        # five runs change w, and the sixth one does not
        self.assertEqual(self.woken("in a; wire w[4]; w = a ? (w < 5 ? w + 1 : w) : 0;", "a", "1"), 6)

    def test_the_order_of_the_runs_is_that_of_the_choices(self):
        text = "wire a; wire b; wire c; a = 1; b = a; c = b;"
        self.assertEqual(simulation_of(text).settle(), 3)
        # c runs first, then b; each runs again after its source
        self.assertEqual(simulation_of(text, choices=[2, 1]).settle(), 5)
        self.assertEqual(simulation_of(text, choices=(1,)).settle(), 4)


class SettlingTest(unittest.TestCase):
    def counting(self, last):
        text = f"in a; wire w[12]; w = a ? (w < {last} ? w + 1 : w) : 0; out q[12]; q = a ? 0 : w;"
        return simulation_of(text)

    def test_the_limit(self):
        self.assertEqual(SETTLE, 2000)

    def test_2000_things(self):
        # q runs once, w so often as it changes and once more
        simulation = self.counting(1998)
        simulation.run_cycle(["0"], reset=0)
        self.assertEqual(simulation.run_cycle(["1"], reset=0), ("0" * 12,))
        self.assertEqual(simulation.state["w"], f"{1998:012b}")

    def test_2001_things(self):
        simulation = self.counting(1999)
        simulation.run_cycle(["0"], reset=0)
        self.assertEqual(failure(simulation.run_cycle, ["1"], reset=0), ("Unsettled", 1))

    def test_the_cycle(self):
        text = "in a; wire w; w = a ? ~w : 0;"
        for cycle in (1, 2, 5):
            stimulus = [(0, ("0",))] * cycle + [(0, ("1",)), (0, ("0",))]
            self.assertEqual(failure(outputs_of, text, stimulus), ("Unsettled", cycle))

    def test_a_loop_of_unknown_bits_settles(self):
        self.assertEqual(outputs_of("in a; out w; w = a ? ~w : 0;", [(0, ("1",)), (0, ("x",)), (0, ("0",))]),
                         [("x",), ("x",), ("0",)])

    def test_settle_by_hand(self):
        simulation = simulation_of("in a; wire w; w = a ? ~w : 0;")
        self.assertEqual(simulation.settle(), 1)
        self.assertEqual(simulation.cycle, 0)
        simulation.run_cycle(["0"], reset=0)
        self.assertEqual(simulation.settle(), 0)


class CyclesTest(unittest.TestCase):
    def test_the_example(self):
        text = "in a; out q[2]; reg s[2] = 1; q = s; tick { if a { s <- s + 1; } }"
        stimulus = [(1, ("0",)), (0, ("1",)), (0, ("1",)), (0, ("x",))]
        self.assertEqual(outputs_of(text, stimulus), [("xx",), ("01",), ("10",), ("11",)])
        self.assertEqual(outputs_of(text, [(1, ["0"])]), [("xx",)])

    def test_inputs_are_resized(self):
        text = "in a[3]; in b; out q[4]; q = {a, b};"
        stimulus = [(0, ("1", "1")), (0, ("01xz", "10")), (0, ("x", "z")), (0, ("000", "111"))]
        self.assertEqual(outputs_of(text, stimulus), [("0011",), ("1xz0",), ("00xz",), ("0001",)])

    def test_the_number_of_inputs(self):
        simulation = simulation_of("in a; out q; in b; q = a ^ b;")
        for inputs in ((), ("0",), ("0", "1", "1")):
            before = (dict(simulation.state), simulation.cycle)
            self.assertEqual(failure(simulation.run_cycle, inputs, reset=0), ("Misused", "inputs"))
            self.assertEqual((simulation.state, simulation.cycle), before)
        self.assertEqual(simulation.run_cycle(("1", "0"), reset=0), ("1",))
        self.assertEqual(failure(outputs_of, "in a;", [(1, ("1",)), (0, ())]), ("Misused", "inputs"))

    def test_the_outputs_are_those_before_the_edge(self):
        simulation = simulation_of("in a; out q; reg r; q = r; tick { r <- a; }")
        outputs = [simulation.run_cycle([vector], reset=0) for vector in "101z"]
        self.assertEqual(outputs, [("x",), ("1",), ("0",), ("1",)])
        self.assertEqual((simulation.cycle, simulation.state["r"]), (4, "z"))

    def test_the_order_of_the_outputs(self):
        self.assertEqual(outputs_of("out z; out a[2]; in k; out m; z = 0; a = 2; m = k;", [(0, ("1",))]), [("0", "10", "1")])

    def test_a_reset_of_1(self):
        text = "in a; out q[3]; out p; reg r[3] = 6; reg s; q = r; p = s; tick { r <- r + 1; } tick { s <- a; }"
        stimulus = [(1, ("1",)), (0, ("1",)), (0, ("1",)), (1, ("1",)), (0, ("1",))]
        self.assertEqual(outputs_of(text, stimulus), [("xxx", "x"), ("110", "0"), ("111", "1"), ("000", "1"), ("110", "0")])

    def test_tick_processes_see_the_values_before_the_edge(self):
        text = "in a[2]; out q[4]; reg r[2]; reg s[2] = 3; q = {r, s}; tick { r <- s; } tick { s <- r + a; }"
        stimulus = [(1, ("00",)), (0, ("01",)), (0, ("10",)), (0, ("00",))]
        expected = [("xxxx",), ("0011",), ("1101",), ("0101",)]
        for choices in ((), (0, 0, 1, 0), (0, 0, 1), (0, 0, 0, 0, 1, 0), (1, 1, 1, 1, 1, 1, 1)):
            self.assertEqual(outputs_of(text, stimulus, choices), expected)

    def test_several_records_are_stored_in_their_order(self):
        text = "out q[4]; reg r[4]; q = r; tick { r <- 9; r[0] <- 0; r[3:2] <- 1; } "
        self.assertEqual(outputs_of(text, [(1, ()), (0, ()), (0, ())])[2], ("0100",))
        text = "out q[4]; reg r[4]; q = r; tick { r[0] <- 0; r <- 9; if r { r[1] <- 1; } }"
        self.assertEqual(outputs_of(text, [(1, ()), (0, ()), (0, ()), (0, ())])[2:], [("1001",), ("1011",)])

    def test_registers_that_no_process_assigns_keep_their_values(self):
        text = "out q[2]; reg r[2] = 2; q = r;"
        self.assertEqual(outputs_of(text, [(0, ()), (1, ()), (0, ()), (0, ())]), [("xx",), ("xx",), ("10",), ("10",)])


class OrdersTest(unittest.TestCase):
    """Two tick processes that store the same places, which no text can have."""

    def setUp(self):
        self.design = design_with("out q[2]; reg r[2]; q = r; tick { r <- 1; }")
        self.design.ticks.append((("next", ("ref", "r"), ("lit", "10")),))

    def run_with(self, *choices):
        # the first choice is taken by the drive
        simulation = Simulation(self.design, choices=(0,) + choices)
        simulation.run_cycle((), reset=0)
        return simulation.state["r"]

    def test_the_second_order_is_that_of_the_stores(self):
        self.assertEqual(self.run_with(), "10")
        self.assertEqual(self.run_with(0, 0, 0, 0), "10")
        self.assertEqual(self.run_with(1, 0, 0, 0), "10")
        self.assertEqual(self.run_with(0, 0, 1, 0), "01")
        self.assertEqual(self.run_with(1, 0, 1, 0), "01")
        self.assertEqual(self.run_with(1, 1, 3, 1), "01")

    def test_the_records_of_one_process_stay_in_their_order(self):
        self.design.ticks[0] = (("next", ("ref", "r"), ("lit", "01")), ("next", ("pick", "r", ("lit", "1")), ("lit", "1")))
        self.assertEqual(self.run_with(0, 0, 1), "11")
        self.assertEqual(self.run_with(0, 0, 0), "10")

    def test_a_reset_takes_no_choices(self):
        simulation = Simulation(self.design, choices=(0, 0, 0, 0, 1, 0))
        # the drive takes one choice in each cycle
        simulation.run_cycle((), reset=1)
        simulation.run_cycle((), reset=0)
        self.assertEqual(simulation.state["r"], "01")

    def test_a_change_at_the_edge_is_one_of_the_whole_edge(self):
        self.design.ticks[1] = (("next", ("ref", "r"), ("lit", "00")),)
        simulation = Simulation(self.design)
        simulation.run_cycle((), reset=1)
        self.assertEqual(simulation.settle(), 1)
        # r becomes 01 and then 00 again
        simulation.edge(reset=0)
        self.assertEqual((simulation.state["r"], simulation.settle()), ("00", 0))

    def test_each_order_of_three_runs(self):
        design = design_with("reg a; reg b; reg c; tick { a <- b; } tick { b <- c; } tick { c <- a; }")
        for first in range(3):
            for second in range(2):
                for third in range(3):
                    simulation = Simulation(design, choices=(first, second, 0, third, second))
                    simulation.state.update({"a": "0", "b": "1", "c": "x"})
                    simulation.edge(reset=0)
                    self.assertEqual(simulation.state, {"a": "1", "b": "x", "c": "0"})


class EdgesTest(unittest.TestCase):
    def test_edge_by_hand(self):
        simulation = simulation_of("out q[2]; reg r[2] = 1; q = r + 1; tick { r <- r + 1; }")
        self.assertIsNone(simulation.edge(reset=1))
        self.assertEqual((simulation.state, simulation.cycle), ({"q": "xx", "r": "01"}, 0))
        self.assertEqual(simulation.settle(), 1)
        self.assertEqual(simulation.state, {"q": "10", "r": "01"})
        self.assertIsNone(simulation.edge(reset=0))
        self.assertEqual(simulation.state, {"q": "10", "r": "10"})
        self.assertEqual(simulation.settle(), 1)
        self.assertEqual(simulation.state, {"q": "11", "r": "10"})
        self.assertEqual(simulation.cycle, 0)

    def test_who_becomes_ready_at_the_edge(self):
        text = "wire a; wire b; wire c; var v; reg r; reg s; a = r; b = s; c = r ^ s; when { v = r; } tick { r <- ~r; s <- s; }"
        simulation = simulation_of(text)
        simulation.run_cycle((), reset=1)
        self.assertEqual(simulation.settle(), 4)
        simulation.edge(reset=0)
        self.assertEqual(simulation.settle(), 3)
        simulation.edge(reset=1)
        self.assertEqual(simulation.settle(), 3)
        simulation.edge(reset=1)
        self.assertEqual(simulation.settle(), 0)

    def test_methods_stand_in_the_class(self):
        for name in ("settle", "edge", "run_cycle"):
            self.assertIn(name, vars(Simulation))


class PromisesTest(unittest.TestCase):
    def test_equal_runs(self):
        for seed in range(20):
            drawn = DrawnDesign(seed)
            design = design_of(drawn.text(), top="t")
            stimulus = drawn.stimulus(design, 6, first_reset=0)
            choices = drawn.choices(200)
            before = copy.deepcopy((vars(design), stimulus, choices))
            at_once = simulate(design, stimulus, choices=choices)
            self.assertEqual((vars(design), stimulus, choices), before)
            simulation = Simulation(design, choices=choices)
            one_by_one = [simulation.run_cycle(inputs, reset=reset) for reset, inputs in stimulus]
            self.assertEqual(one_by_one, at_once)
            self.assertEqual(simulation.cycle, 6)

    def test_the_outputs_do_not_depend_on_the_choices(self):
        for seed in range(100, 140):
            drawn = DrawnDesign(seed)
            design = design_of(drawn.text(), top="t")
            stimulus = drawn.stimulus(design, 6, first_reset=seed % 2)
            stimulus[4] = (0, tuple("x" * design.width[name] for name in design.inputs()))
            expected = simulate(design, stimulus)
            for many in (3, 50, 1000):
                self.assertEqual(simulate(design, stimulus, choices=drawn.choices(many)), expected, seed)

    def test_choices_decide_what_a_process_sees(self):
        # if the process runs before b follows a, it sees equal bits and keeps that
        text = "in a; wire b; var v; out q; b = ~a; q = v; when { if a == b { v = 1; } }"
        stimulus = [(0, ("0",)), (0, ("1",))]
        self.assertEqual(outputs_of(text, stimulus), [("x",), ("x",)])
        self.assertEqual(outputs_of(text, stimulus, [0, 0, 0, 1]), [("x",), ("1",)])
        self.assertEqual(outputs_of(text, stimulus, [3, 2, 1, 5]), [("x",), ("1",)])

    def test_the_state_is_not_shared(self):
        design = design_with("in a; out q; reg r = 1; q = a; tick { r <- a; }")
        one, two = Simulation(design), Simulation(design)
        one.run_cycle(["1"], reset=1)
        self.assertEqual(two.state, {"a": "x", "q": "x", "r": "x"})
        self.assertEqual(design.reset, {"r": "1"})
        one.run_cycle(["0"], reset=0)
        self.assertEqual(design.reset, {"r": "1"})


if __name__ == "__main__":
    unittest.main()
