"""What the document promises of several files at once, over drawn designs."""

import os
import random
import re
import subprocess
import sys
import unittest

from clockwright.cells import library_text, read_library
from clockwright.certify import certify
from clockwright.compare import compare
from clockwright.cover import cover, graph_price
from clockwright.flat import design_of
from clockwright.flow import build, output_vectors, run_made, run_timed, stimulus_rows
from clockwright.graph import run_resets
from clockwright.netlist import netlist_graph, netlist_text, read_netlist, run_netlist
from clockwright.rewrite import is_irreducible, rewritten
from clockwright.simulate import simulate
from clockwright.synth import synthesize
from clockwright.timing import least_period
from drawn_designs import DrawnDesign
from drawn_netlists import complete_library
from test_language import FILES, ROOT

EACH = """
unit t(n)
  in a[n]; in b; out q[n]; out r;
  func mix(x[2], y)[2] { loop i in 0..2 { x[i] = x[i] ^ y; } give x + y; }
  each i in 0..n { reg k = i; wire w; w = k ^ a[i]; q[i] = w & ~b; tick { if b { k <- w; } else { k <- ^mix(a, k); } } }
  r = ^q | &a;
end
"""


def drawn(seed):
    """A text, its design, the stimuli that it is given, and lists of choices."""
    source = DrawnDesign(seed)
    text = source.text()
    design = design_of(text, top="t")
    stimuli = [source.stimulus(design, 7) for _ in range(2)]
    return text, design, stimuli, [(), source.choices(20), source.choices(2000)]


class DesignsTest(unittest.TestCase):
    def test_the_outputs_do_not_depend_on_the_choices(self):
        for seed in range(200, 225):
            _, design, stimuli, choices = drawn(seed)
            for stimulus in stimuli:
                found = [simulate(design, stimulus, choices=chosen) for chosen in choices]
                self.assertTrue(all(outputs == found[0] for outputs in found))

    def test_graphs_and_netlists_behave_as_the_simulation(self):
        for seed in range(300, 325):
            _, design, stimuli, choices = drawn(seed)
            machine = synthesize(design)
            small = rewritten(machine.graph)
            library = complete_library(seed)
            netlist = cover(small, library)
            self.assertTrue(is_irreducible(small))
            self.assertEqual(netlist.area(), graph_price(small, library))
            again = read_netlist(netlist_text(netlist), read_library(library_text(library)))
            for stimulus in stimuli:
                rows = stimulus_rows(design, stimulus)[1:]
                resets = [reset for reset, _ in stimulus][1:]
                expected = simulate(design, stimulus, choices=choices[seed % 3])[1:]
                runs = [run_resets(graph, rows, resets) for graph in (machine.graph, small, netlist_graph(netlist))]
                runs += [run_netlist(one, rows, resets) for one in (netlist, again)]
                for outputs in runs:
                    self.assertEqual([output_vectors(design, bits) for bits in outputs], expected)

    def test_what_is_built_behaves_as_the_simulation(self):
        certified = 0
        for seed in range(400, 430):
            text, design, stimuli, choices = drawn(seed)
            made = build(text, top="t", library=library_text(complete_library(seed)), limit=300)
            self.assertEqual(made.period, least_period(made.netlist))
            for stimulus in stimuli:
                for chosen in choices:
                    expected = simulate(design, stimulus, choices=chosen)[1:]
                    self.assertEqual(run_made(made, stimulus), expected)
                for period in (made.period, made.period + 1, 2 * made.period + 3):
                    self.assertEqual(run_timed(made, stimulus, period), expected)
            if made.certificate is not None:
                certified += 1
                self.assertIs(certify(made.machine.graph, netlist_graph(made.netlist), made.certificate), True)
        self.assertGreater(certified, 15)

    def test_repeated_items(self):
        drawn_rows = random.Random(1)
        for width in (2, 3):
            for seed in range(3):
                made = build(EACH, top="t", library=library_text(complete_library(seed)), arguments=(width,))
                stimulus = [(int(cycle in (0, 5)), (f"{drawn_rows.randrange(2 ** width):0{width}b}", str(drawn_rows.randrange(2))))
                            for cycle in range(12)]
                expected = simulate(made.design, stimulus, choices=list(range(seed, 60)))[1:]
                self.assertEqual(run_made(made, stimulus), expected)
                self.assertEqual(run_timed(made, stimulus, made.period), expected)


class AgreementTest(unittest.TestCase):
    def machines(self):
        """Pairs of graphs of designs, the second one with another reset value of one register, or with the same."""
        for seed in range(500, 540):
            text, design, _, _ = drawn(seed)
            changed = re.sub(r"(reg k0\S* = )(\d+)", lambda found: f"{found[1]}{int(found[2]) + 1}", text)
            self.assertNotEqual(changed, text)
            for other in (text, changed):
                yield seed, synthesize(design).graph, synthesize(design_of(other, top="t")).graph

    def test_answers_hold(self):
        seen = {"equal": 0, "different": 0, "unknown": 0}
        for seed, one, two in self.machines():
            two = rewritten(two)
            answer, found = compare(one, two, cycles=3, limit=200)
            seen[answer] += 1
            if answer == "different":
                resets = [0] * len(found)
                runs = [run_resets(graph, found, resets) for graph in (one, two)]
                self.assertNotEqual(runs[0][-1], runs[1][-1])
                self.assertEqual(runs[0][:-1], runs[1][:-1])
            elif answer == "equal":
                self.assertIs(certify(one, two, found), True)
                self.check_agreement(seed, one, two)
        self.assertGreater(min(seen["equal"], seen["different"]), 8)

    def check_agreement(self, seed, one, two):
        drawn_bits = random.Random(seed)
        for _ in range(4):
            rows = [[drawn_bits.randrange(2) for _ in range(one.inputs)] for _ in range(10)]
            resets = [int(drawn_bits.randrange(4) == 0) for _ in rows]
            self.assertEqual(run_resets(one, rows, resets), run_resets(two, rows, resets))


class ImportTest(unittest.TestCase):
    def run_code(self, code):
        environment = dict(os.environ, PYTHONPATH=ROOT)
        done = subprocess.run([sys.executable, "-W", "error", "-c", code], env=environment, capture_output=True, text=True)
        self.assertEqual((done.returncode, done.stdout, done.stderr), (0, "", ""), code)

    def test_each_module_alone(self):
        for module in sorted(FILES):
            self.run_code(f"import {module}")

    def test_any_order(self):
        for seed in range(5):
            modules = sorted(FILES)
            random.Random(seed).shuffle(modules)
            self.run_code("\n".join(f"import {module}" for module in modules))


if __name__ == "__main__":
    unittest.main()
