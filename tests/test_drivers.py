import copy
import unittest

from clockwright.drivers import (
    assigned_names, block_reads, build_order, check_sources, expression_reads, target_bits,
)
from clockwright.flat import design_of
from drawn_designs import DrawnDesign
from helpers import A, B, C, failure, lit, ref


def design_with(text, others=""):
    return design_of(f"unit t() {text} end {others}", top="t")


def bits_of(name, *indexes):
    return [(name, index) for index in indexes]


SIGNALS = design_with("in a[3]; in b[2]; in c; wire w[4]; var v[3]; reg r[2];")


class TargetsTest(unittest.TestCase):
    def check(self, target, expected):
        self.assertEqual(target_bits(SIGNALS, target), expected)

    def test_names(self):
        self.check(ref("w"), bits_of("w", 0, 1, 2, 3))
        self.check(ref("c"), bits_of("c", 0))

    def test_parts(self):
        self.check(("part", "w", 3, 1), bits_of("w", 1, 2, 3))
        self.check(("part", "w", 2, 2), bits_of("w", 2))

    def test_picks(self):
        self.check(("pick", "w", lit(2)), bits_of("w", 2))
        self.check(("pick", "w", ("lit", "0011")), bits_of("w", 3))

    def test_cat_begins_with_its_last_target(self):
        target = ("cat", (ref("c"), ("part", "w", 3, 2), ("pick", "v", lit(1))))
        self.check(target, bits_of("v", 1) + bits_of("w", 2, 3) + bits_of("c", 0))
        target = ("cat", (("cat", (ref("b"), ("pick", "w", lit(0)))), ("cat", (("cat", (ref("r"),)), ref("c")))))
        self.check(target, bits_of("c", 0) + bits_of("r", 0, 1) + bits_of("w", 0) + bits_of("b", 0, 1))


class ReadsTest(unittest.TestCase):
    def check(self, expression, expected):
        self.assertEqual(expression_reads(SIGNALS, expression), expected)

    def test_names_parts_and_literals(self):
        self.check(A, bits_of("a", 0, 1, 2))
        self.check(("part", "a", 2, 1), bits_of("a", 1, 2))
        self.check(lit(5), [])

    def test_picks_with_a_known_literal_index(self):
        self.check(("pick", "a", lit(1)), bits_of("a", 1))
        self.check(("pick", "a", lit(2)), bits_of("a", 2))
        for index in (3, 4, 2 ** 64 - 1):
            self.check(("pick", "a", lit(index)), [])

    def test_other_picks(self):
        self.check(("pick", "a", B), bits_of("b", 0, 1) + bits_of("a", 0, 1, 2))
        self.check(("pick", "a", ("lit", "x")), bits_of("a", 0, 1, 2))
        self.check(("pick", "a", ("lit", "0z1")), bits_of("a", 0, 1, 2))
        self.check(("pick", "a", ("pick", "b", C)), bits_of("c", 0) + bits_of("b", 0, 1) + bits_of("a", 0, 1, 2))

    def test_operands_from_left_to_right(self):
        self.check(("mux", B, C, ("not", A)), bits_of("b", 0, 1) + bits_of("c", 0) + bits_of("a", 0, 1, 2))
        self.check(("cat", (C, ("rep", 3, B))), bits_of("c", 0) + bits_of("b", 0, 1))
        self.check(("call", "f", (B, A)), bits_of("b", 0, 1) + bits_of("a", 0, 1, 2))
        self.check(("same", ("pick", "b", lit(1)), C), bits_of("b", 1) + bits_of("c", 0))

    def test_each_bit_once(self):
        tree = ("add", ("pick", "a", lit(2)), ("add", A, ("part", "a", 1, 0)))
        self.check(tree, bits_of("a", 2, 0, 1))
        self.check(("pick", "b", B), bits_of("b", 0, 1))

    def blocks(self, text):
        return design_with(f"in a[3]; in b[2]; in c; var v[3]; var w; {text}")

    def check_block(self, block, expected, word="when"):
        design = self.blocks(f"{word} {block}") if word == "when" else self.blocks(f"reg r[2]; reg s; tick {block}")
        found = block_reads(design, (design.whens + design.ticks)[0])
        self.assertEqual(found, expected)

    def test_statements(self):
        self.check_block("{ }", [])
        self.check_block("{ v = b[1]; w = c; }", bits_of("b", 1) + bits_of("c", 0))
        self.check_block("{ v = v + 1; }", bits_of("v", 0, 1, 2))

    def test_the_expression_comes_before_the_target(self):
        self.check_block("{ v[b] = c; }", bits_of("c", 0) + bits_of("b", 0, 1))
        self.check_block("{ {v[b[0]], w, v[a]} = c; }", bits_of("c", 0) + bits_of("b", 0) + bits_of("a", 0, 1, 2))
        self.check_block("{ r[c] <- b[1]; s <- c; }", bits_of("b", 1) + bits_of("c", 0), word="tick")

    def test_what_is_assigned_is_not_read(self):
        self.check_block("{ v = 0; v[1] = 1; {v[1:0], w} = 3; }", [])
        self.check_block("{ r[1] <- r[0]; }", bits_of("r", 0), word="tick")

    def test_if_and_case(self):
        self.check_block("{ if c { v = b[1]; } else { v[b[0]] = a[2]; } w = a[0]; }",
                         [("c", 0), ("b", 1), ("a", 2), ("b", 0), ("a", 0)])
        self.check_block("{ case a[1:0] { 1: { v = b; } 2, 3: { v = c; } else { w = a; } } }",
                         [("a", 0), ("a", 1), ("b", 0), ("b", 1), ("c", 0), ("a", 2)])

    def test_assigned_names(self):
        block = """{ w = 0; if c { {v[0], u} = 1; v = 2; } else { case a { 1: { y[a] = 0; w = 1; } else { x[0] = 1; } } }
            z[1:0] = 2; }"""
        design = self.blocks(f"var u; var x; var y; var z[2]; when {block}")
        self.assertEqual(assigned_names(design.whens[0]), ["w", "v", "u", "y", "x", "z"])
        self.assertEqual(assigned_names(()), [])
        design = self.blocks("reg r; reg s; tick { {s, {r}} <- a; if s { s <- 0; } }")
        self.assertEqual(assigned_names(design.ticks[0]), ["s", "r"])
        design = self.blocks("when { if a { } case b { 1: { } } }")
        self.assertEqual(assigned_names(design.whens[0]), [])


class SourcesTest(unittest.TestCase):
    def check(self, text, name, others=""):
        design = design_with(text, others)
        before = copy.deepcopy(vars(design))
        expected = None if name is None else ("Undriven", name)
        self.assertEqual(failure(check_sources, design), expected)
        self.assertEqual(vars(design), before)

    def test_everything_has_a_source(self):
        text = """in a[2]; out b[3]; wire c; var v[2]; var w; reg r[2]; reg s; b[0] = 1; {b[2:1], c} = a;
            when { if c { v[0] = 1; } } when { {w} = 1; } tick { case a { 1: { r[a] <- 1; } else { s <- 0; } } }"""
        self.check(text, None)
        self.assertIsNone(check_sources(design_with(text)))
        self.check("", None)
        self.check("in a;", None)

    def test_wires_and_outs(self):
        self.check("wire a;", "a")
        self.check("out a;", "a")
        self.check("wire a[3]; a[2] = 1; a[0] = 1;", "a")
        self.check("wire a[3]; a[2:1] = 1;", "a")
        self.check("out a[3]; {a[0], a[2:1]} = 1;", None)

    def test_ports_of_instances(self):
        self.check("use u = s()(a: 1);", None, "unit s() in a; out b; b = a; end")
        self.check("use u = s()();", "u.a", "unit s() in a; out b; b = a; end")
        self.check("use u = s()(a: 1);", "u.b", "unit s() in a; out b; end")

    def test_vars_and_regs(self):
        self.check("var v;", "v")
        self.check("reg r;", "r")
        self.check("var v[2]; when { v[0] = 1; }", None)
        self.check("reg r[2]; tick { if 0 { r[1] <- 1; } }", None)
        self.check("var v; when { }", "v")
        self.check("reg r; reg s; tick { s <- r; }", "r")

    def test_the_first_signal_of_the_design(self):
        self.check("reg r; wire a; var v; out b;", "r")
        self.check("wire a; a = 1; var v; out b; reg r;", "v")
        self.check("in i; wire a; var v; out b; reg r; a = 1; when { v = 1; }", "b")
        self.check("out b[2]; reg r; b[0] = 1;", "b")


class OrderTest(unittest.TestCase):
    def order(self, text, others=""):
        design = design_with(text, others)
        before = copy.deepcopy(vars(design))
        found = build_order(design)
        self.assertEqual(vars(design), before)
        return [word[0] + str(index) for word, index in found]

    def failure(self, text):
        return failure(build_order, design_with(text))

    def test_the_example(self):
        design = design_of("unit t() in d; out a[2]; a[1] = a[0]; a[0] = d; end", top="t")
        self.assertEqual(build_order(design), [("drive", 1), ("drive", 0)])

    def test_free_nodes_are_taken_in_their_order(self):
        self.assertEqual(self.order("wire a; wire b; wire c; var v; var w; when { v = 1; } b = 1; when { } a = 0; c = 1;"),
                         ["d0", "d1", "d2", "w0", "w1"])
        self.assertEqual(self.order(""), [])

    def test_the_first_node_is_taken_in_each_round(self):
        # 0 waits for 3, which is free from the start; 1 comes first, then 0 as soon as it can
        self.assertEqual(self.order("wire a; wire b; wire c; wire d; a = d; b = 1; c = a; d = b;"), ["d1", "d3", "d0", "d2"])
        self.assertEqual(self.order("wire a; wire b; wire c; wire d; a = b; c = 0; b = 1; d = 1;"), ["d1", "d2", "d0", "d3"])

    def test_bits_count_and_not_signals(self):
        self.assertEqual(self.order("in d; wire a[4]; a[3:2] = a[1:0]; a[1] = a[0]; a[0] = d;"), ["d2", "d1", "d0"])
        self.assertEqual(self.order("wire a[2]; a[0] = a[5]; a[1] = a[0];"), ["d0", "d1"])

    def test_drives_and_processes(self):
        text = "in i; wire a; wire b; var v; var w; a = w; b = i; when { w = v + b; } when { v = b; }"
        self.assertEqual(self.order(text), ["d1", "w1", "w0", "d0"])

    def test_a_process_assigns_all_bits_of_its_names(self):
        self.assertEqual(self.order("var v[2]; wire a; a = v[1]; when { v[0] = 1; }"), ["w0", "d0"])

    def test_a_process_may_read_what_it_assigns(self):
        self.assertEqual(self.order("in i; var v[2]; when { v[1] = v[0]; v[v] = i; }"), ["w0"])

    def test_processes_that_assign_nothing(self):
        self.assertEqual(self.order("wire a; wire b; when { if a { } } a = b; b = 1;"), ["d1", "d0", "w0"])

    def test_registers_and_inputs_are_there(self):
        self.assertEqual(self.order("in i; reg r; wire a; a = r + i; tick { r <- a; }"), ["d0"])

    def test_indexes_and_functions(self):
        self.assertEqual(self.order("wire a; wire b; wire c; a = c[b]; b = 1; c = 0;"), ["d1", "d2", "d0"])
        self.assertEqual(self.order("func f(x) { give x; } wire a; wire b; a = f(b); b = 1;"), ["d1", "d0"])
        self.assertEqual(self.order("wire i; var v[2]; when { v[i] = 1; } i = 1;"), ["d0", "w0"])

    def test_a_drive_that_reads_its_own_bit(self):
        self.assertEqual(self.failure("wire a; a = a;"), ("Circular", "a"))
        self.assertEqual(self.failure("wire a[2]; a = a[0];"), ("Circular", "a"))
        self.assertEqual(self.failure("in i; wire a[2]; a[1] = a[i]; a[0] = 0;"), ("Circular", "a"))
        self.assertIsNone(self.failure("wire a[2]; a[1] = a[0]; a[0] = 0;"))

    def test_cycles_through_drives(self):
        self.assertEqual(self.failure("wire a; wire b; wire c; c = 1; a = b; b = a;"), ("Circular", "a"))
        self.assertEqual(self.failure("wire a; wire b; wire c; b = c; c = a; a = b;"), ("Circular", "b"))

    def test_cycles_through_processes(self):
        self.assertEqual(self.failure("var v; var w; when { v = w; } when { w = v; }"), ("Circular", "v"))
        self.assertEqual(self.failure("wire a; var v; when { if a { v = 1; } } a = v;"), ("Circular", "a"))
        # the process assigns the whole of v, so the bits do not help
        self.assertEqual(self.failure("wire a; var v[2]; when { v[1] = a; v[0] = 1; } a = v[0];"), ("Circular", "a"))
        self.assertEqual(self.failure("wire a[2]; var v; when { v = a[1]; } a[1] = a[0]; a[0] = v;"), ("Circular", "a"))

    def test_the_first_node_that_is_left_need_not_be_in_the_cycle(self):
        self.assertEqual(self.failure("wire a; wire b; wire c; c = a; a = b; b = a;"), ("Circular", "c"))
        self.assertEqual(self.failure("wire a; wire b; var v; b = 0; when { v = a; } a = a & b;"), ("Circular", "a"))

    def test_nodes_that_assign_nothing_are_passed_over(self):
        self.assertEqual(self.failure("var v; var w; when { if v { } } when { w = v; } when { v = w; }"), ("Circular", "w"))
        self.assertEqual(self.failure("wire a; var v; when { if a { } } a = v; when { v = a; }"), ("Circular", "a"))

    def test_the_name_is_the_first_one_that_is_assigned(self):
        self.assertEqual(self.failure("wire a; wire b; wire c[2]; {b, c[1], a} = a; c[0] = 1;"), ("Circular", "b"))
        self.assertEqual(self.failure("var v; var w; var u; when { if w { {u, v} = 1; } w = 1; } when { }"), None)
        text = "wire a; var v; var w; var u; when { if a { w = 1; } {v, u} = 3; } a = u;"
        self.assertEqual(self.failure(text), ("Circular", "a"))
        text = "var v; var w; var u; var y; when { if y { w = 1; } {v, u} = 3; } when { y = u; }"
        self.assertEqual(self.failure(text), ("Circular", "w"))

    def test_drawn_designs(self):
        for seed in range(30):
            design = design_of(DrawnDesign(seed).text(), top="t")
            self.assertEqual(build_order(design), self.by_rounds(design))

    def by_rounds(self, design):
        """Point DR4, word by word."""
        nodes = [("drive", index) for index in range(len(design.drives))]
        nodes += [("when", index) for index in range(len(design.whens))]

        def assigned(node):
            if node[0] == "drive":
                return set(target_bits(design, design.drives[node[1]][0]))
            names = assigned_names(design.whens[node[1]])
            return {(name, index) for name in names for index in range(design.width[name])}

        def read(node):
            if node[0] == "drive":
                return set(expression_reads(design, design.drives[node[1]][1]))
            return set(block_reads(design, design.whens[node[1]])) - assigned(node)

        taken = []
        while len(taken) < len(nodes):
            left = [node for node in nodes if node not in taken]
            missing = set().union(*map(assigned, left))
            taken.append(next(node for node in left if not read(node) & missing))
        return taken


if __name__ == "__main__":
    unittest.main()
