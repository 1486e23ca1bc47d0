import copy
import unittest

from clockwright.flat import design_of
from clockwright.graph import Graph, run_resets
from clockwright.simulate import simulate
from clockwright.synth import MAX_STEPS, Builder, Machine, bit_names, synthesize
from drawn_designs import DrawnDesign
from drawn_graphs import fields
from helpers import failure
from synth_by_the_document import reference_graph


def design_with(text, others=""):
    return design_of(f"unit t() {text} end {others}", top="t")


def machine_of(text, others=""):
    return synthesize(design_with(text, others))


def graph_of(text, others=""):
    return machine_of(text, others).graph


def builder_for(text):
    """A builder for a design whose inputs are the first nodes, and the environment of its inputs."""
    design = design_with(text)
    graph = Graph(sum(design.width[name] for name in design.inputs()), [])
    env = {}
    literal = 2
    for name in design.inputs():
        env[name] = list(range(literal, literal + 2 * design.width[name], 2))
        literal += 2 * design.width[name]
    for name in design.names:
        env.setdefault(name, [None] * design.width[name])
    return design, Builder(design, graph), env


class NamesTest(unittest.TestCase):
    def test_bit_names(self):
        self.assertEqual(bit_names("q", 1), ["q"])
        self.assertEqual(bit_names("q", 3), ["q[0]", "q[1]", "q[2]"])
        self.assertEqual(bit_names("i[0].u.w", 2), ["i[0].u.w[0]", "i[0].u.w[1]"])

    def test_machine(self):
        graph = Graph(1, [])
        names = (["a"], ["r"], ["q"])
        machine = Machine(graph, *names)
        self.assertIs(machine.graph, graph)
        self.assertEqual((machine.inputs, machine.registers, machine.outputs), names)
        for own, given in zip((machine.inputs, machine.registers, machine.outputs), names):
            own.append("b")
            self.assertEqual(len(given), 1)

    def test_the_order_of_inputs_registers_and_outputs(self):
        text = """out q[2]; in b; reg s[2] = 2; in a[3]; out p; reg r = 1; reg k[3] = 3;
            q = a; p = s[1]; tick { s <- a; {k, r} <- b; }"""
        machine = machine_of(text)
        self.assertEqual(machine.inputs, ["b", "a[0]", "a[1]", "a[2]"])
        self.assertEqual(machine.registers, ["s[0]", "s[1]", "r", "k[0]", "k[1]", "k[2]"])
        self.assertEqual(machine.outputs, ["q[0]", "q[1]", "p"])
        graph = machine.graph
        self.assertEqual((graph.inputs, graph.outputs), (4, [4, 6, 12]))
        self.assertEqual(graph.registers, [(4, 0), (6, 1), (2, 1), (0, 1), (0, 1), (0, 0)])

    def test_names_in_instances(self):
        others = "unit s(n) in a[n]; out b; reg c[n] = 1; b = c[0]; tick { c <- a; } end"
        machine = machine_of("in d; out e; use u = s(2)(a: d, b: e);", others)
        self.assertEqual((machine.inputs, machine.registers, machine.outputs), (["d"], ["u.c[0]", "u.c[1]"], ["e"]))
        self.assertEqual(fields(machine.graph), (1, [(2, 1), (0, 0)], [], [4]))

    def test_an_empty_design(self):
        machine = machine_of("")
        self.assertEqual(fields(machine.graph), (0, [], [], []))
        self.assertEqual((machine.inputs, machine.registers, machine.outputs), ([], [], []))


class GraphsTest(unittest.TestCase):
    def check(self, text, ands, outputs, registers=()):
        graph = graph_of(text)
        self.assertEqual((graph.ands, graph.outputs, graph.registers), (ands, outputs, list(registers)))

    def test_the_example(self):
        self.check("in d; out q; reg r = 1; q = r; tick { r <- r ^ d; }", [(3, 4), (2, 5), (7, 9)], [4], [(11, 1)])

    def test_drives(self):
        self.check("in a; in b; out q; q = a & ~b;", [(2, 5)], [6])
        self.check("in a[2]; out q[3]; q = a;", [], [2, 4, 0])
        self.check("in a[2]; out q; q = a;", [], [2])
        self.check("in a[3]; out q[2]; out p[2]; {p[0], q, p[1]} = {a[0], a};", [], [4, 6, 2, 2])
        self.check("in a[2]; out q[2]; q[1] = q[0]; q[0] = a[1];", [], [4, 4])

    def test_drives_are_built_in_order(self):
        # the second drive comes first
        self.check("in a; in b; out q; wire w; q = w & b; w = a & ~b;", [(2, 5), (4, 6)], [8])

    def test_set(self):
        start = "in a; in b; out q[3]; var v[3]; q = v;"
        self.check(start + "when { v = {a, b}; v[2] = v[0]; }", [], [4, 2, 4])
        self.check(start + "when { v[2:1] = 1; v[0] = b; }", [], [4, 1, 0])
        self.check(start + "when { {v[0], v[2:1]} = {b, a, b}; }", [], [4, 4, 2])

    def test_a_pick_whose_index_is_no_literal(self):
        start = "in i; in b; out q[2]; var v[2]; q = v; "
        self.check(start + "when { v = 1; v[i] = b; }", [(3, 4), (3, 7), (2, 4)], [9, 10])

    def test_if(self):
        self.check("in c; in a; out q; var v; q = v; when { if c { v = a; } else { v = 0; } }", [(2, 4)], [6])
        # the condition, the first block, the second block, the merge
        text = "in c[2]; in a; out q; var v; q = v; when { if c { v = a & c[0]; } else { v = a & c[1]; } }"
        self.check(text, [(3, 5), (2, 6), (4, 6), (9, 10), (8, 12), (15, 17)], [19])

    def test_bits_with_equal_literals_are_not_merged(self):
        self.check("in c; in a; out q[2]; var v[2]; q = v; when { v = a; if c { v[1] = 1; } }", [], [4, 2])
        self.check("in c; in a; out q; var v; q = v; when { if c { v = a; } else { v = a; } }", [], [4])

    def test_next(self):
        self.check("in a; reg r; reg s; out q; q = 0; tick { r <- s; s <- r & a; r <- r ^ r; }",
                   [(2, 4)], [0], [(0, 0), (8, 0)])
        # what next reads is the environment, not the updates
        self.check("in a; reg r; out q; q = 0; tick { r <- a; r <- ~r; }", [], [0], [(5, 0)])
        # the choice by r, between ~r and a
        self.check("in a; reg r; out q; q = 0; tick { r <- a; if r { r <- ~r; } }", [(2, 5)], [0], [(6, 0)])

    def test_several_tick_processes(self):
        self.check("in a; reg r; reg s[2] = 3; out q; q = 0; tick { s[1] <- a; } tick { r <- s[1]; }", [], [0],
                   [(8, 0), (6, 1), (2, 1)])

    def test_the_order_of_a_merge(self):
        # the updates are merged in the order of the registers, not of the assignments
        text = "in c; in a; in b; reg r; reg s; out q; q = 0; tick { if c { s <- a; r <- b; } }"
        self.check(text, [(2, 6), (3, 8), (13, 15), (2, 4), (3, 10), (19, 21)], [0], [(17, 0), (23, 0)])
        text = "in c; in a; in b; var v; var u; out q[2]; q = {v, u}; when { u = a; v = b; if c { u = b; v = a; } }"
        self.check(text, [(2, 4), (3, 6), (9, 11), (2, 6), (3, 4), (15, 17)], [19, 13])

    def test_case(self):
        start = "in a[2]; in b; out q; var v; q = v; "
        self.check(start + "when { case a { 2: { v = b; } else { v = 0; } } }", [(3, 4), (6, 8)], [10])
        # all vectors of an arm, then their disjunction
        self.check(start + "when { case a { 1, 2: { v = b; } else { v = 0; } } }",
                   [(2, 5), (3, 4), (9, 11), (6, 13)], [14])

    def test_the_order_of_a_case(self):
        # found, its block, the next found, its block, the last block, then the merges from the last one on
        text = """in a; in b; in c; out q; var v; q = v;
            when { case {b, a} { 0: { v = b & c; } 1: { v = a & c; } else { v = a & b; } } }"""
        graph = graph_of(text)
        self.assertEqual(graph.ands[:5], [(3, 5), (4, 6), (2, 5), (2, 6), (2, 4)])
        self.assertEqual(graph.ands[5:8], [(12, 14), (13, 16), (19, 21)])
        self.assertEqual(graph.ands[8:], [(8, 10), (9, 23), (25, 27)])
        self.assertEqual(graph.outputs, [29])

    def test_vectors_of_other_widths(self):
        start = "in a[2]; in b; out q; var v; q = v; "
        self.check(start + "when { v = 0; case a { 4'b0011: { v = b; } } }", [(2, 4), (6, 8)], [10])
        self.check(start + "when { v = 0; case a { 1'b1: { v = b; } } }", [(2, 5), (6, 8)], [10])
        self.check(start + "when { v = 0; case a { 4'b0111: { v = b; } } }", [(2, 4)], [0])

    def test_a_case_without_arms(self):
        self.check("in a; out q; var v; q = v; when { case a & 1 { else { v = a; } } }", [], [2])

    def test_functions(self):
        # x is cut to 2 bits, y extended; the result has 3 bits
        text = "in a[3]; in b; out q[4]; func f(x[2], y[2])[3] { y[1] = x[1]; give {x, y}; } q = f(a, b) & f(a, b);"
        self.check(text, [], [8, 4, 2, 0])
        text = "in a[2]; out q[3]; func f(x[2]) { x = x & 1; give x; } q = f(a);"
        self.check(text, [], [2, 0, 0])

    def test_functions_in_functions(self):
        text = """in a[2]; out q[2]; func f(x) { if x { x = 0; } else { x = 1; } give x; }
            func g(x[2])[2] { x = {f(x), f(x[1])}; give x; } q = g(a);"""
        self.check(text, [], [5, 3])

    def test_drawn_designs(self):
        for seed in range(60):
            design = design_of(DrawnDesign(seed).text(), top="t")
            before = copy.deepcopy(vars(design))
            self.assertEqual(fields(synthesize(design).graph), fields(reference_graph(design)), seed)
            self.assertEqual(vars(design), before)


class BuilderTest(unittest.TestCase):
    def test_a_new_builder(self):
        design, builder, _ = builder_for("in a;")
        self.assertIs(builder.design, design)
        self.assertEqual((builder.graph.inputs, builder.steps), (1, 0))

    def test_run_block_changes_the_environment(self):
        design, builder, env = builder_for("in a[2]; var v[2]; var w; when { v = {a[0], a[1]}; w = 1; v[0] = w; }")
        updates = {}
        given = [list(env["v"])]
        own = env["v"]
        self.assertIsNone(builder.run_block(design.whens[0], env, updates))
        self.assertEqual((env, updates), ({"a": [2, 4], "v": [1, 2], "w": [1]}, {}))
        self.assertEqual((own, builder.steps), (given[0], 3))

    def test_next_changes_the_updates(self):
        design, builder, env = builder_for("in a[2]; reg r[2]; tick { r[1] <- a[0]; if a[1] { r[0] <- r[1]; } }")
        env["r"] = [0, 1]
        updates = {"r": [0, 1]}
        self.assertIsNone(builder.run_block(design.ticks[0], env, updates))
        self.assertEqual((env["r"], updates), ([0, 1], {"r": [4, 2]}))

    def test_give(self):
        design, builder, env = builder_for("in a[2]; func f(x[2]) { x = ~x; give {x, 1'b1}; }")
        self.assertEqual(builder.run_block(design.functions["f"][2], {"x": [2, 4]}, {}), [1, 3, 5])
        self.assertEqual(builder.steps, 2)
        self.assertIsNone(builder.run_block((), env, {}))

    def test_call(self):
        design, builder, _ = builder_for("in a[2]; func f(x[2], y[3])[4] { give {x, y}; }")
        arguments = [[2, 4, 1], [1]]
        self.assertEqual(builder.call("f", arguments), [1, 0, 0, 2])
        self.assertEqual((arguments, builder.steps), ([[2, 4, 1], [1]], 1))

    def test_what_was_changed_before_an_error_stays_changed(self):
        design, builder, env = builder_for("in a; var v; var w; when { v = a; w = 1'bx; v = 0; }")
        self.assertEqual(failure(builder.run_block, design.whens[0], env, {}), ("Unbuildable", "lit"))
        self.assertEqual((env["v"], env["w"]), ([2], [None]))
        design, builder, env = builder_for("in a; reg r; tick { r <- a; r <- a === 1; }")
        env["r"] = [0]
        updates = {"r": [0]}
        self.assertEqual(failure(builder.run_block, design.ticks[0], env, updates), ("Unbuildable", "same"))
        self.assertEqual(updates, {"r": [2]})

    def test_none_on_one_side_and_on_both(self):
        design, builder, env = builder_for("in c; var v[3]; when { if c { v[0] = 1; v[1] = 0; } else { v[1] = 1; } }")
        builder.run_block(design.whens[0], env, {})
        self.assertEqual(env["v"], [None, 3, None])

    def test_none_in_a_case(self):
        design, builder, env = builder_for("in c[2]; var v[2]; when { case c { 1: { v = 1; } 2: { v[0] = 1; } } }")
        builder.run_block(design.whens[0], env, {})
        self.assertEqual(env["v"], [None, None])
        text = "in c[2]; var v[2]; when { case c { 1: { v = 1; } 2: { v[0] = 1; } else { v[0] = 1; v[1] = 1; } } }"
        design, builder, env = builder_for(text)
        builder.run_block(design.whens[0], env, {})
        self.assertEqual(env["v"], [1, None])

    def test_a_stored_pick_of_bits_without_a_value(self):
        for first in ("", "v[0] = 1;", "v[1] = 1;"):
            design, builder, env = builder_for(f"in a; var v[2]; when {{ {first} v[a] = 1; }}")
            self.assertEqual(failure(builder.run_block, design.whens[0], env, {}), ("Latched", "v"))
        # the first target of a cat gives the second one its values
        design, builder, env = builder_for("in a; var v[2]; when { {v, v[a]} = 1; }")
        builder.run_block(design.whens[0], env, {})
        self.assertEqual((env["v"], builder.graph.ands), ([3, 2], []))

    def test_the_index_is_built_behind_the_expression(self):
        design, builder, env = builder_for("in a; in b; var v[2]; when { v = 0; v[a & b] = a & ~b; }")
        builder.run_block(design.whens[0], env, {})
        self.assertEqual(builder.graph.ands[:2], [(2, 5), (2, 4)])

    def test_indexes_are_built_from_left_to_right_before_the_targets_are_assigned(self):
        text = "in a; in b; var v[2]; var w; when { v = 0; w = 1; {w, v[w], v[a & b], v[a ^ b]} = 7; }"
        design, builder, env = builder_for(text)
        builder.run_block(design.whens[0], env, {})
        self.assertEqual(builder.graph.ands[:4], [(2, 4), (2, 5), (3, 4), (9, 11)])
        # w was 1 when its index was built, and v[1] is 1 in the end whatever the other indexes are
        self.assertEqual((env["w"], env["v"][1]), ([0], 1))

    def test_methods_stand_in_the_class(self):
        for name in ("run_block", "call"):
            self.assertIn(name, vars(Builder))


class StepsTest(unittest.TestCase):
    def counted(self, block, functions=""):
        design, builder, env = builder_for(f"in a; var v; {functions} when {block}")
        builder.run_block(design.whens[0], env, {})
        return builder.steps

    def test_each_statement_counts(self):
        self.assertEqual(MAX_STEPS, 2000)
        self.assertEqual(self.counted("{ }"), 0)
        self.assertEqual(self.counted("{ v = 0; if a { v = 1; v = 0; } else { v = 1; } v = 1; }"), 6)
        self.assertEqual(self.counted("{ v = 0; case a { 0: { v = 1; } 1: { v = 1; v = 0; } else { v = 1; } } }"), 6)
        # blocks run also where the condition is a constant
        self.assertEqual(self.counted("{ if 0 { v = 1; } else { if 1 { } } }"), 3)

    def test_statements_of_functions_count(self):
        functions = "func f(x) { x = 0; give x; } func g(x) { if x { x = f(x); } give f(x); }"
        self.assertEqual(self.counted("{ v = f(a); }", functions), 3)
        self.assertEqual(self.counted("{ v = g(a) + f(a); v = 0; }", functions), 1 + 7 + 2 + 1)

    # each call of f counts 500 steps
    FUNCTION = "func f(x) { loop i in 0..499 { x = 1; } give x; }"

    def test_2000_and_2001_steps(self):
        start = f"out q; var v[8]; q = v; {self.FUNCTION}"
        # three calls and their statements are 1503 steps
        calls = "v = f(1); v = f(1); v = f(1);"
        for many, error in ((496, None), (497, None), (498, ("Unbounded", "steps"))):
            text = f"{start} when {{ {calls} {'v = 0; ' * many} }}"
            self.assertEqual(failure(machine_of, text), error, many)
        # and so they are in the functions alone
        self.assertEqual(failure(machine_of, f"{self.FUNCTION} out q; q = f(f(f(f(0))));"), None)
        self.assertEqual(failure(machine_of, f"{self.FUNCTION} func g(x) {{ give x; }} out q; q = g(f(f(f(f(0)))));"),
                         ("Unbounded", "steps"))

    def test_steps_of_all_processes_count(self):
        text = f"{self.FUNCTION} reg r; reg s; wire w; w = f(0); var v; when {{ v = f(0); }} tick {{ r <- f(0); }}"
        self.assertIsNone(failure(machine_of, text + f"tick {{ {'s <- 1; ' * 498} }}"))
        self.assertEqual(failure(machine_of, text + f"tick {{ {'s <- 1; ' * 499} }}"), ("Unbounded", "steps"))

    def test_each_builder_counts_for_itself(self):
        design, builder, env = builder_for("in a; var v; when { v = 1; }")
        for _ in range(2000):
            builder.run_block(design.whens[0], env, {})
        self.assertEqual(failure(builder.run_block, design.whens[0], env, {}), ("Unbounded", "steps"))
        self.assertIsNone(Builder(design, builder.graph).run_block(design.whens[0], env, {}))


class ErrorsTest(unittest.TestCase):
    def check(self, text, error):
        self.assertEqual(failure(machine_of, text), error)

    def test_latched(self):
        self.check("in a; var v; out q; q = v; when { if a { v = 1; } }", ("Latched", "v"))
        self.check("in a; var v[2]; out q; q = v; when { v[0] = 1; }", ("Latched", "v"))
        self.check("in a; var v; out q; q = v; when { case a { 0: { v = 1; } 1: { v = 0; } } }", ("Latched", "v"))
        self.check("in a; var v; out q; q = v; when { v = v; }", ("Latched", "v"))
        self.check("in a; var v; var w; out q; q = v; when { w = v; v = 1; }", ("Latched", "v"))

    def test_the_first_latched_name(self):
        text = "in a; var v; var w; var u; out q; q = 0; when { u = 1; if a { {w, v} = 1; } }"
        self.check(text, ("Latched", "w"))
        self.check(text.replace("u = 1;", "v = 0;").replace("when {", "when { if a { u = 0; }"), ("Latched", "u"))

    def test_unbuildable(self):
        self.check("out q; q = 1'bx;", ("Unbuildable", "lit"))
        self.check("in a; out q; q = a === 0;", ("Unbuildable", "same"))
        self.check("in a; out q; var v; q = v; when { case a { 1'bx: { v = 0; } else { v = 1; } } }", ("Unbuildable", "lit"))
        self.check("in a; out q; var v; q = v; when { v = 0; case a { 0: { } 2'b0z: { } } }", ("Unbuildable", "lit"))
        self.check("in a; out q; var v[2]; q = v; when { v = 0; v[1'bx] = 1; }", ("Unbuildable", "lit"))
        self.check("out q; func f(x) { give 1'bz; } q = f(0);", ("Unbuildable", "lit"))

    def test_a_function_that_is_not_called_is_not_built(self):
        self.check("out q; func f(x) { give x === 1'bz; } q = 0;", None)

    def test_an_unknown_index_comes_behind_the_expression(self):
        self.check("in a; out q; var v[2]; q = v; when { v = 0; v[1'bx] = a === 0; }", ("Unbuildable", "same"))
        self.check("in a; out q; var v[2]; q = v; when { v[1'bx] = 1; }", ("Unbuildable", "lit"))
        self.check("in a; out q; var v[2]; q = v; when { {v[a], v[1'bx]} = 1; }", ("Unbuildable", "lit"))
        self.check("in a; out q; var v[2]; q = v; when { {v[a], v[1'bx === a]} = 1; }", ("Unbuildable", "same"))
        self.check("in a; out q; var v[2]; q = v; when { {v[a], v[~a]} = 1; }", ("Latched", "v"))

    def test_unbounded(self):
        # 63 inputs and 62 names of 64 bits are 4031 nodes
        text = "".join(f"in a{index}[64]; " for index in range(63))
        self.check(text, ("Unbounded", "graph"))
        self.check(text.replace("in a62[64]; ", "in a62[31]; "), None)
        self.check(text.replace("in a62[64]; ", "in a62[31]; in b;"), ("Unbounded", "graph"))
        self.check("".join(f"reg r{index}[64]; " for index in range(63)), ("Undriven", "r0"))
        many = "".join(f"reg r{index}[64]; " for index in range(63))
        assigned = " ".join(f"r{index} <- 0;" for index in range(63))
        self.check(f"{many} tick {{ {assigned} }}", ("Unbounded", "graph"))

    def test_a_graph_that_becomes_too_large(self):
        self.check("in a[40]; in b[40]; out q[40]; q = a * b;", ("Unbounded", "graph"))
        self.check("in a[20]; in b[20]; out q[20]; q = a * b;", None)

    UNDRIVEN = "wire k;"
    CIRCULAR = "wire x; x = ~x;"
    LATCHED = "var y; when { if a { y = 1; } }"
    UNBUILDABLE = "wire z; z = 1'bx;"
    STEPS = "wire s; func f(x) { loop i in 0..900 { x = 1; } give x; } s = f(1) + f(1) + f(1);"

    def test_undriven_comes_first(self):
        rest = self.STEPS + self.UNBUILDABLE + self.LATCHED + self.CIRCULAR
        self.check(f"in a; {rest} {self.UNDRIVEN}", ("Undriven", "k"))
        self.check(f"in a; {rest}", ("Circular", "x"))

    def test_circular_comes_before_what_building_raises(self):
        for text in (self.LATCHED, self.UNBUILDABLE, self.STEPS):
            self.check(f"in a; {text} {self.CIRCULAR}", ("Circular", "x"))
        inputs = "".join(f"in a{index}[64]; " for index in range(63))
        self.check(inputs + self.CIRCULAR, ("Circular", "x"))
        self.check(inputs + self.UNBUILDABLE, ("Unbounded", "graph"))

    def test_building_raises_what_comes_first_in_the_order_of_the_nodes(self):
        self.check("in a;" + self.LATCHED + self.UNBUILDABLE, ("Unbuildable", "lit"))
        self.check("in a;" + self.UNBUILDABLE + self.STEPS, ("Unbuildable", "lit"))
        self.check("in a;" + self.STEPS + self.UNBUILDABLE, ("Unbounded", "steps"))
        self.check("in a;" + self.STEPS + self.LATCHED, ("Unbounded", "steps"))
        # the drive of z depends on the process, which is latched
        self.check("in a;" + self.LATCHED + "wire z; z = y & 1'bx;", ("Latched", "y"))
        self.check("in a; reg r; tick { r <- a === 1; }" + self.LATCHED, ("Latched", "y"))

    def test_tick_processes_come_last(self):
        self.check("in a; reg r; reg s; tick { s <- 1'bx; } tick { r <- a === 1; }", ("Unbuildable", "lit"))
        self.check("in a; reg r; tick { r <- a === 1; } wire z; z = 1'bx;", ("Unbuildable", "lit"))


class SameOutputsTest(unittest.TestCase):
    def bits(self, vectors):
        return [int(bit) for vector in vectors for bit in reversed(vector)]

    def check(self, design, stimulus, lists):
        rows = [self.bits(inputs) for _, inputs in stimulus]
        resets = [reset for reset, _ in stimulus]
        expected = run_resets(synthesize(design).graph, rows[1:], resets[1:])
        for choices in lists:
            outputs = simulate(design, stimulus, choices=choices)
            self.assertEqual([self.bits(vectors) for vectors in outputs[1:]], expected)

    def test_drawn_designs(self):
        for seed in range(200, 260):
            drawn = DrawnDesign(seed)
            design = design_of(drawn.text(), top="t")
            stimulus = drawn.stimulus(design, 8)
            self.check(design, stimulus, [(), drawn.choices(30), drawn.choices(500)])

    def test_a_design_with_all_parts(self):
        others = """unit cell(n) in d[n]; in on; out s[n]; reg m[n] = 5; s = on ? m : ~m;
            tick { if on { m <- m * d + 1; } else { m[d] <- ^d; } } end"""
        text = """in a[4]; in b[4]; in c; out q[8]; out p; wire w[8]; var v[4]; reg k[3] = 6;
            func f(x[4], y)[5] { case x { 0, 3: { x = x - 1; } 12: { x = {x[1:0], y}; } } give {y, x}; }
            each i in 0..2 { use u = cell(4)(d: i ? a : b, on: c ^ i); }
            wire t[4]; use u = cell(3)(d: b >> 1, on: a < b, s: t);
            when { v = f(a, c); loop i in 0..3 { if b[i] { v[i + 1] = v[i]; } } v[k] = c; }
            w = {v, t} - (a << k); q = w ^ {2: f(v, a[k])}; p = w[k] && !(a == b) || ^t;
            tick { case k { 0: { k <- 5; } 1, 2: { {k[0], k[2:1]} <- a; } else { k <- k - 1; } } }"""
        design = design_with(text, others)
        drawn = DrawnDesign(4)
        stimulus = drawn.stimulus(design, 40)
        self.check(design, stimulus, [(), [1, 0, 2], drawn.choices(5000)])


if __name__ == "__main__":
    unittest.main()
