import inspect
import unittest

from clockwright.cells import library_text
from clockwright.certify import certify
from clockwright.compare import compare
from clockwright.cover import cover
from clockwright.delays import run_delayed
from clockwright.design import Design
from clockwright.flat import design_of
from clockwright.flow import Made, build, output_vectors, run_made, run_timed, stimulus_rows
from clockwright.netlist import Netlist, netlist_graph, netlist_text, run_netlist
from clockwright.rewrite import rewritten
from clockwright.simulate import simulate
from clockwright.synth import Machine, synthesize
from clockwright.timing import least_period
from drawn_graphs import fields
from drawn_netlists import complete_library
from helpers import failure

LIBRARY = "flop 1 2\ncell inv 10 2 1\ncell nand 1110 3 2 2\n"
TOGGLE = "unit t() in d; out q; reg r = 1; q = r; tick { r <- r ^ d; } end"
COUNTER = "unit t(n) in up; out q[n]; reg s[n] = 1; q = s; tick { if up { s <- s + 1; } } end"
SEVERAL = """
unit half(n)
  in a[n]; in b; out s[n]; out c;
  reg kept[n] = 2;
  s = a ^ kept; c = &a | b;
  tick { if b { kept <- a; } else { kept <- kept + 1; } }
end
unit t(n)
  in a[n]; in b; in c[2];
  out o; out p[n]; out q[3];
  wire w[n]; wire v[2];
  func least(x[3], y[3])[3] { if y < x { x = y; } give x; }
  each i in 0..2 { wire y; use h = half(n)(a: a + i, b: b ^ c[i], c: y); v[i] = y; reg r; tick { r <- y ^ r; } }
  use one = half(n)(a: w, b: v[0], s: p);
  w = least(a, {b, c}) - 1;
  var m[3];
  when { m = 0; case c { 0: { m = a; } 1, 2: { m[1] = b; } else { m = ~a; } } }
  q = m + v; o = ^w | v[1];
end
"""


def made_toggle():
    return build(TOGGLE, top="t", library=LIBRARY)


class BuildTest(unittest.TestCase):
    def test_the_example(self):
        made = made_toggle()
        self.assertEqual(run_made(made, [(1, ("0",)), (0, ("1",)), (0, ("0",)), (0, ("1",))]), [("1",), ("0",), ("0",)])

    def test_the_fields(self):
        made = made_toggle()
        self.assertIsInstance(made, Made)
        self.assertIsInstance(made.design, Design)
        self.assertIsInstance(made.machine, Machine)
        self.assertIsInstance(made.netlist, Netlist)
        self.assertEqual(made.period, least_period(made.netlist))
        self.assertEqual((made.design.names, made.machine.registers), (["d", "q", "r"], ["r"]))
        self.assertEqual(library_text(made.netlist.library), LIBRARY)

    def test_the_steps(self):
        for text, arguments in ((TOGGLE, ()), (COUNTER, (4,)), (SEVERAL, (3,))):
            for seed in range(3):
                library = complete_library(seed)
                made = build(text, top="t", library=library_text(library), arguments=arguments, cycles=2, limit=100)
                design = design_of(text, top="t", arguments=arguments)
                machine = synthesize(design)
                netlist = cover(rewritten(machine.graph), library)
                self.assertEqual(vars(made.design), vars(design))
                self.assertEqual(fields(made.machine.graph), fields(machine.graph))
                self.assertEqual(netlist_text(made.netlist), netlist_text(netlist))
                answer, found = compare(machine.graph, netlist_graph(netlist), cycles=2, limit=100)
                self.assertEqual(made.certificate, found if answer == "equal" else None)

    def test_the_certificate(self):
        made = made_toggle()
        self.assertIs(certify(made.machine.graph, netlist_graph(made.netlist), made.certificate), True)
        self.assertIsNone(build(TOGGLE, top="t", library=LIBRARY, limit=0).certificate)
        self.assertIsNotNone(build(TOGGLE, top="t", library=LIBRARY, cycles=0).certificate)

    def test_the_limit_is_that_of_the_comparison(self):
        made = build(COUNTER, top="t", library=LIBRARY, arguments=(3,))
        graph, other = made.machine.graph, netlist_graph(made.netlist)
        for limit in (0, 1, 5, 20, 2000):
            answer, found = compare(graph, other, cycles=4, limit=limit)
            expected = found if answer == "equal" else None
            self.assertEqual(build(COUNTER, top="t", library=LIBRARY, arguments=(3,), limit=limit).certificate, expected)
        self.assertEqual(made.certificate, expected)
        self.assertIsNotNone(expected)

    def test_values_that_may_be_left_out(self):
        parameters = inspect.signature(build).parameters
        self.assertEqual(list(parameters), ["text", "top", "library", "arguments", "cycles", "limit"])
        self.assertEqual([parameters[name].default for name in ("arguments", "cycles", "limit")], [(), 4, 2000])

    def test_arguments(self):
        self.assertEqual(build(COUNTER, top="t", library=LIBRARY, arguments=(2,)).machine.registers, ["s[0]", "s[1]"])
        self.assertEqual(build(COUNTER, top="t", library=LIBRARY, arguments=[1]).machine.registers, ["s"])


class ErrorsTest(unittest.TestCase):
    def check(self, expected, text=TOGGLE, library=LIBRARY, top="t", **more):
        self.assertEqual(failure(build, text, top=top, library=library, **more), expected)

    def test_each_step(self):
        self.check(("Malformed", 0), library="flop\n")
        self.check(("Malformed", 9), library="flop 1 2\ncell inv 10 2\n")
        self.check(("Twice", "i"), library="flop 1 2\ncell i 10 2 1\ncell i 10 2 1\n")
        self.check(("Malformed", 5), text="unit (")
        self.check(("Unknown", "u"), top="u")
        self.check(("Misused", "t"), arguments=(1,))
        self.check(("Undriven", "q"), text="unit t() out q; end")
        self.check(("Circular", "q"), text="unit t() out q; q = ~q; end")
        self.check(("Latched", "v"), text="unit t() in a; out q; var v; q = v; when { if a { v = 1; } } end")
        self.check(("Uncovered", "inverter"), library="flop 1 2\ncell nand 1110 3 2 2\n")
        self.check(("Uncovered", "gate"), library="flop 1 2\ncell inv 10 3 2\n")

    def test_the_library_comes_first(self):
        self.check(("Malformed", 0), text="unit (", library="")
        self.check(("Twice", "i"), text="unit (", library="flop 1 2\ncell i 10 2 1\ncell i 10 2 1\n")

    def test_reading_the_design_comes_before_the_rest(self):
        self.check(("Malformed", 5), text="unit (", library="flop 1 2\n", top="u")
        self.check(("Unknown", "u"), text="unit t() out q; end", library="flop 1 2\n", top="u")
        self.check(("Unknown", "z"), text="unit t() out q; q = z; end", library="flop 1 2\n")

    def test_synthesis_comes_before_the_cells(self):
        self.check(("Undriven", "q"), text="unit t() out q; end", library="flop 1 2\n")
        self.check(("Unbuildable", "same"), text="unit t() in a; out q; q = a === 1; end", library="flop 1 2\n")
        self.check(("Unbounded", "graph"), text="unit t() in a[64]; in b[64]; out q[64]; q = a * b; end", library="flop 1 2\n")
        self.check(("Uncovered", "inverter"), library="flop 1 2\n")


class VectorsTest(unittest.TestCase):
    def setUp(self):
        self.design = design_of("unit t() in a[3]; out p; in b; in c[2]; out q[3]; out r[2]; p = b; q = a; r = c; end", top="t")

    def test_rows(self):
        self.assertEqual(stimulus_rows(self.design, [(1, ("100", "1", "01")), (0, ["011", "0", "10"])]),
                         [[0, 0, 1, 1, 1, 0], [1, 1, 0, 0, 0, 1]])
        self.assertEqual(stimulus_rows(self.design, []), [])

    def test_the_order_is_that_of_the_machine(self):
        self.assertEqual(synthesize(self.design).inputs, ["a[0]", "a[1]", "a[2]", "b", "c[0]", "c[1]"])
        self.assertEqual(synthesize(self.design).outputs, ["p", "q[0]", "q[1]", "q[2]", "r[0]", "r[1]"])

    def test_reset_bits_are_not_looked_at(self):
        for reset in (0, 1):
            self.assertEqual(stimulus_rows(self.design, [(reset, ("000", "1", "00"))]), [[0, 0, 0, 1, 0, 0]])

    def test_designs_without_inputs_or_outputs(self):
        design = design_of("unit t() reg r; tick { r <- ~r; } end", top="t")
        self.assertEqual(stimulus_rows(design, [(1, ()), (0, [])]), [[], []])
        self.assertEqual(output_vectors(design, []), ())

    def test_vectors_that_are_not_right(self):
        right = (1, ("100", "1", "01"))
        for vectors in (("1x0", "1", "01"), ("100", "x", "01"), ("100", "z", "01"), ("100", "1", "0z"),
                        ("10", "1", "01"), ("1000", "1", "01"), ("100", "01", "01"), ("100", "1", "1"),
                        ("100", "1"), ("100",), (), ("100", "1", "01", "1"), ("1", "100", "01")):
            for stimulus in ([(0, vectors)], [right, (0, vectors)], [right, (1, vectors), right]):
                self.assertEqual(failure(stimulus_rows, self.design, stimulus), ("Misused", "inputs"))

    def test_output_vectors(self):
        self.assertEqual(output_vectors(self.design, [1, 0, 0, 1, 1, 0]), ("1", "100", "01"))
        self.assertEqual(output_vectors(self.design, [0, 1, 1, 0, 0, 1]), ("0", "011", "10"))

    def test_arguments_do_not_change(self):
        bits, stimulus = [1, 0, 0, 1, 1, 0], [(1, ["100", "1", "01"])]
        output_vectors(self.design, bits)
        stimulus_rows(self.design, stimulus)[0].append(1)
        self.assertEqual((bits, stimulus), ([1, 0, 0, 1, 1, 0], [(1, ["100", "1", "01"])]))


class RunTest(unittest.TestCase):
    def check(self, text, arguments, stimulus, library=LIBRARY, choices=((), (3, 1, 2, 0) * 30, tuple(range(90)))):
        made = build(text, top="t", library=library, arguments=arguments, limit=30)
        for chosen in choices:
            expected = simulate(made.design, stimulus, choices=chosen)[1:]
            self.assertEqual(run_made(made, stimulus), expected)
            for period in (made.period, made.period + 1, 5 * made.period):
                self.assertEqual(run_timed(made, stimulus, period), expected)

    def stimulus(self, widths, many, resets=()):
        """Inputs that count, in steps of 3."""
        rows = [tuple(f"{3 * cycle % 2 ** width:0{width}b}" for width in widths) for cycle in range(many)]
        return [(int(cycle == 0 or cycle in resets), row) for cycle, row in enumerate(rows)]

    def test_registers(self):
        self.check(TOGGLE, (), self.stimulus([1], 9))
        self.check(TOGGLE, (), self.stimulus([1], 9, resets=(1, 5, 8)))
        for width in (1, 2, 5):
            self.check(COUNTER, (width,), self.stimulus([1], 9, resets=(3, 4)))

    def test_instances_repeated_items_and_functions(self):
        self.check(SEVERAL, (3,), self.stimulus([3, 1, 2], 14, resets=(6,)))
        for seed in range(4):
            library = library_text(complete_library(seed))
            self.check(SEVERAL, (2 + seed % 2,), self.stimulus([2 + seed % 2, 1, 2], 10, resets=(4, 7)), library)

    def test_designs_without_registers_or_inputs(self):
        self.check("unit t() in a[3]; in b[3]; out q[3]; out r; q = a * b; r = a < b; end", (), self.stimulus([3, 3], 9))
        self.check("unit t() out q[3]; reg r[3] = 5; q = r; tick { r <- r + 3; } end", (), [(1, ())] + [(0, ())] * 9)
        self.check("unit t() in a; end", (), self.stimulus([1], 3))

    def test_stimuli_of_few_cycles(self):
        made = made_toggle()
        for stimulus in ([], [(1, ("0",))]):
            self.assertEqual((run_made(made, stimulus), run_timed(made, stimulus, 9)), ([], []))
        self.assertEqual(run_made(made, [(1, ("0",)), (0, ("0",))]), [("1",)])

    def test_the_first_reset_bit_is_not_looked_at(self):
        made = made_toggle()
        for reset in (0, 1):
            stimulus = [(reset, ("1",)), (0, ("1",)), (0, ("1",))]
            self.assertEqual(run_made(made, stimulus), [("1",), ("0",)])
            self.assertEqual(run_timed(made, stimulus, made.period), [("1",), ("0",)])

    def test_wrong_vectors_in_any_cycle(self):
        made = made_toggle()
        for cycle in range(3):
            for vectors in (("x",), ("01",), (), ("0", "0")):
                stimulus = [(0, ("1",))] * 3
                stimulus[cycle] = (1, vectors)
                self.assertEqual(failure(run_made, made, stimulus), ("Misused", "inputs"))
                self.assertEqual(failure(run_timed, made, stimulus, 5), ("Misused", "inputs"))

    def test_periods_that_are_too_short(self):
        made = build(COUNTER, top="t", library=LIBRARY, arguments=(3,))
        stimulus = [(1, ("0",))] + [(0, ("1",))] * 8
        rows, resets = [[1]] * 8, [0] * 8
        differ = 0
        for period in range(1, made.period):
            expected = [output_vectors(made.design, bits) for bits in run_delayed(made.netlist, rows, resets, period)]
            self.assertEqual(run_timed(made, stimulus, period), expected)
            differ += expected != run_made(made, stimulus)
        self.assertGreater(differ, 0)

    def test_the_rows_of_the_netlist_begin_with_cycle_1(self):
        made = build(COUNTER, top="t", library=LIBRARY, arguments=(2,))
        stimulus = [(1, ("1",)), (0, ("1",)), (1, ("1",)), (0, ("0",)), (0, ("1",))]
        expected = run_netlist(made.netlist, [[1], [1], [0], [1]], [0, 1, 0, 0])
        self.assertEqual(run_made(made, stimulus), [output_vectors(made.design, bits) for bits in expected])
        self.assertEqual(run_made(made, stimulus), [("01",), ("10",), ("01",), ("01",)])

    def test_arguments_do_not_change(self):
        made = made_toggle()
        stimulus = [(1, ["0"]), (0, ["1"])]
        before = netlist_text(made.netlist)
        run_made(made, stimulus).append(1)
        run_timed(made, stimulus, 7).append(1)
        self.assertEqual((stimulus, netlist_text(made.netlist)), ([(1, ["0"]), (0, ["1"])], before))


if __name__ == "__main__":
    unittest.main()
