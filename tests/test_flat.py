import copy
import unittest

from clockwright.flat import design_of, elaborate
from clockwright.items import parse
from helpers import A, B, C, D, lit, ref


def design(text, arguments=(), top="t", others=""):
    return design_of(f"unit t({', '.join('nmk'[:len(arguments)])}) {text} end {others}", top=top, arguments=arguments)


def drives(text, **keywords):
    return design(text, **keywords).drives


def pick(name, number):
    return ("pick", name, lit(number))


class ScopesTest(unittest.TestCase):
    def test_parameters_are_constants(self):
        found = design("wire a[n]; wire b[m]; a = n; b = m + a;", (3, 40))
        self.assertEqual(found.width, {"a": 3, "b": 40})
        self.assertEqual(found.drives, [(A, lit(3)), (B, ("add", lit(40), A))])

    def test_the_bounds_of_arguments(self):
        self.assertEqual(drives("wire a; a = n;", arguments=(2 ** 64 - 1,)), [(A, ("lit", "1" * 64))])
        self.assertEqual(drives("wire a; a = n;", arguments=(0,)), [(A, lit(0))])

    def test_each(self):
        found = design("out a[4]; each i in 1..3 { wire w[i]; a[i] = w; w = i; }")
        self.assertEqual(found.names, ["a", "i[1].w", "i[2].w"])
        self.assertEqual(found.width, {"a": 4, "i[1].w": 1, "i[2].w": 2})
        self.assertEqual(found.drives, [
            (pick("a", 1), ref("i[1].w")), (ref("i[1].w"), lit(1)),
            (pick("a", 2), ref("i[2].w")), (ref("i[2].w"), lit(2)),
        ])

    def test_each_inside_each(self):
        found = design("each i in 0..2 { wire w; each j in i..2 { wire w; w = i + j; } w = i; }")
        self.assertEqual(found.names, ["i[0].w", "i[0].j[0].w", "i[0].j[1].w", "i[1].w", "i[1].j[1].w"])
        self.assertEqual(found.drives, [
            (ref("i[0].j[0].w"), ("add", lit(0), lit(0))), (ref("i[0].j[1].w"), ("add", lit(0), lit(1))),
            (ref("i[0].w"), lit(0)),
            (ref("i[1].j[1].w"), ("add", lit(1), lit(1))), (ref("i[1].w"), lit(1)),
        ])

    def test_empty_ranges(self):
        for low, high in ((0, 0), (3, 3), (4, 1), (2 ** 64 - 1, 0)):
            found = design(f"each i in {low}..{high} {{ wire w; q = r; }} when {{ loop i in {low}..{high} {{ q = r; }} }}")
            self.assertEqual((found.names, found.drives, found.whens), ([], [], [()]))

    def test_large_bounds(self):
        top = 2 ** 64 - 1
        self.assertEqual(design(f"each i in {top - 1}..{top} {{ wire w; }}").names, [f"i[{top - 1}].w"])

    def test_inner_names_hide_outer_ones(self):
        found = design("""wire a[2]; each i in 0..1 { a = 3; wire a[5]; a = i; each a in 7..8 { wire w; w = a; } }
            each n in 1..2 { wire w[n]; } wire b[n];""", (6,))
        self.assertEqual(found.drives, [(A, lit(3)), (ref("i[0].a"), lit(0)), (ref("i[0].a[7].w"), lit(7))])
        self.assertEqual(found.width["n[1].w"], 1)
        self.assertEqual(found.width["b"], 6)

    def test_each_repetition_has_its_own_scope(self):
        found = design("each i in 0..2 { given i == 0 { wire a; } else { wire a[2]; } a = i; }")
        self.assertEqual(found.width, {"i[0].a": 1, "i[1].a": 2})

    def test_given_has_no_scope_of_its_own(self):
        text = "given n > 2 { wire a[n]; } else { wire b; } given n > 2 { a = 1; } else { b = 2; }"
        self.assertEqual(drives(text, arguments=(3,)), [(A, lit(1))])
        self.assertEqual(drives(text, arguments=(2,)), [(B, lit(2))])

    def test_given_holds_if_the_value_is_not_0(self):
        for number in (0, 1, 2, 2 ** 64 - 1):
            self.assertEqual(design("given n { wire a; } else { wire b; }", (number,)).names, ["a" if number else "b"])
            self.assertEqual(design("given n { wire a; }", (number,)).names, ["a"] if number else [])

    def test_items_that_are_not_chosen_are_not_elaborated(self):
        self.assertEqual(design("given 0 { q = r; use u = none()(); wire a[0]; }").names, [])

    def test_units_of_equal_names(self):
        text = "unit t() wire a; end unit t() wire b; end"
        self.assertEqual(design_of(text, top="t").names, ["a"])


class DeclarationsTest(unittest.TestCase):
    def test_kinds_and_widths(self):
        found = design("in a[2]; out b; wire c[64]; reg d[n]; var e;", (7,))
        self.assertEqual(found.names, ["a", "b", "c", "d", "e"])
        self.assertEqual(found.kind, {"a": "in", "b": "out", "c": "wire", "d": "reg", "e": "var"})
        self.assertEqual(found.width, {"a": 2, "b": 1, "c": 64, "d": 7, "e": 1})

    def test_resets(self):
        found = design("reg a; reg b[3] = 5; reg c[2] = 13; reg d[4] = n; reg e[64] = 18446744073709551615; reg f = 2;", (1,))
        self.assertEqual(found.reset, {"a": "0", "b": "101", "c": "01", "d": "0001", "e": "1" * 64, "f": "0"})

    def test_resets_are_constant_expressions(self):
        self.assertEqual(design("reg a[4] = n * 2 + (n > 1); reg b[4] = 2'b11 << 1;", (3,)).reset, {"a": "0111", "b": "0110"})

    def test_in_and_out_inside_each_of_the_top_unit(self):
        found = design("each i in 0..1 { in a; out b; } given 1 { in c; }")
        self.assertEqual(found.kind, {"i[0].a": "in", "i[0].b": "out", "c": "in"})

    def test_equal_names_in_different_scopes(self):
        self.assertEqual(design("wire a; each i in 0..1 { wire a; func f(a) { give a; } } func f(a) { give a; }").names, ["a", "i[0].a"])


class ExpressionsTest(unittest.TestCase):
    TEXT = "in a[8]; in b[8]; in c; out d[64]; func f(x, y)[4] { give x; } each i in 2..3 { d = %s; }"

    def check(self, text, expected):
        self.assertEqual(drives(self.TEXT % text, arguments=(5,)), [(D, expected)], text)

    def test_names_and_constants(self):
        self.check("a", A)
        self.check("n", lit(5))
        self.check("i", lit(2))
        self.check("4'b0x1z", ("lit", "0x1z"))
        self.check("4'b0001", ("lit", "0001"))

    def test_operators(self):
        self.check("~a + n", ("add", ("not", A), lit(5)))
        self.check("a > i", ("lt", lit(2), A))
        self.check("c ? a : {b, n}", ("mux", C, A, ("cat", (B, lit(5)))))
        self.check("a === b", ("same", A, B))

    def test_other_expressions_are_not_simplified(self):
        self.check("1 + n * 2", ("add", lit(1), ("mul", lit(5), lit(2))))
        self.check("1 ? a : b", ("mux", lit(1), A, B))
        self.check("0 - 1", ("sub", lit(0), lit(1)))
        self.check("1 << 70", ("shl", lit(1), lit(70)))

    def test_repetitions(self):
        self.check("{n - 1: c}", ("rep", 4, C))
        self.check("{2: {i: a[0]}}", ("rep", 2, ("rep", 2, pick("a", 0))))
        self.check("{64: c}", ("rep", 64, C))

    def test_parts(self):
        self.check("a[n + 2:i]", ("part", "a", 7, 2))
        self.check("a[3:3]", ("part", "a", 3, 3))
        self.check("a[7:0]", ("part", "a", 7, 0))
        self.check("c[0:0]", ("part", "c", 0, 0))

    def test_picks(self):
        self.check("a[n - 1]", pick("a", 4))
        self.check("a[4'b0011]", pick("a", 3))
        self.check("a[b]", ("pick", "a", B))
        self.check("a[b + n]", ("pick", "a", ("add", B, lit(5))))
        self.check("a[b[i]]", ("pick", "a", pick("b", 2)))

    def test_a_constant_index_may_be_too_great(self):
        self.check("a[8]", pick("a", 8))
        self.check("c[18446744073709551615]", pick("c", 2 ** 64 - 1))

    def test_indexes_without_a_constant_value(self):
        self.check("a[n - 6]", ("pick", "a", ("sub", lit(5), lit(6))))
        self.check("a[2'b1x]", ("pick", "a", ("lit", "1x")))
        self.check("a[~n]", ("pick", "a", ("not", lit(5))))
        self.check("a[{n}]", ("pick", "a", ("cat", (lit(5),))))
        self.check("a[1 << 64]", ("pick", "a", ("shl", lit(1), lit(64))))
        self.check("a[1 === 1]", ("pick", "a", ("same", lit(1), lit(1))))

    def test_calls(self):
        self.check("f(a, n)", ("call", "f", (A, lit(5))))
        self.check("f(f(a, b), c)", ("call", "f", (("call", "f", (A, B)), C)))

    def test_flat_names(self):
        text = "each i in 0..1 { wire a[4], b; func f(x) { give x; } each j in 0..1 { b = f(a[3:1]) + a[b] + a[n] + b; } }"
        self.assertEqual(drives(text, arguments=(1,)), [(ref("i[0].b"), (
            "add", ("add", ("add", ("call", "i[0].f", (("part", "i[0].a", 3, 1),)), ("pick", "i[0].a", ref("i[0].b"))),
                    pick("i[0].a", 1)), ref("i[0].b"),
        ))])


class DrivesTest(unittest.TestCase):
    def test_targets(self):
        text = "in a; out b[4]; wire c[4], d[4]; b = a; c[n + 1] = a; c[n:0] = a; {d, c[3]} = a;"
        self.assertEqual(drives(text, arguments=(1,)), [
            (B, A), (pick("c", 2), A), (("part", "c", 1, 0), A), (("cat", (D, pick("c", 3))), A),
        ])

    def test_each_bit_may_be_driven_once(self):
        text = "wire a[4]; each i in 0..4 { a[3 - i] = i; }"
        self.assertEqual([target for target, _ in drives(text)], [pick("a", 3), pick("a", 2), pick("a", 1), pick("a", 0)])

    def test_a_drive_may_read_what_it_drives(self):
        self.assertEqual(drives("wire a; a = ~a;"), [(A, ("not", A))])

    def test_outs_are_read(self):
        self.assertEqual(drives("out a; wire b; b = a;"), [(B, A)])

    def test_a_target_of_64_bits(self):
        self.assertEqual(len(drives("wire a[32], b[32]; {a, b} = 0;")), 1)

    def test_undriven_bits_are_no_error(self):
        self.assertEqual(drives("out a; wire b; reg c; var d;"), [])


CELL = "unit cell(n, m) in a[n]; in b; out y[m]; wire w; y = a; w = b; end"


class InstancesTest(unittest.TestCase):
    def test_names_kinds_and_widths(self):
        found = design("in x; use u = cell(2, 3 + n)();", (4,), others=CELL)
        self.assertEqual(found.names, ["x", "u.a", "u.b", "u.y", "u.w"])
        self.assertEqual(found.kind, {"x": "in", "u.a": "wire", "u.b": "wire", "u.y": "wire", "u.w": "wire"})
        self.assertEqual(found.width, {"x": 1, "u.a": 2, "u.b": 1, "u.y": 7, "u.w": 1})
        self.assertEqual(found.inputs(), ["x"])
        self.assertEqual(found.outputs(), [])

    def test_connections_follow_the_items(self):
        found = drives("in x[2]; out z[4]; use u = cell(2, 2)(y: z[1:0], a: x + 1, b: x[0]);", others=CELL)
        self.assertEqual(found, [
            (ref("u.y"), ref("u.a")), (ref("u.w"), ref("u.b")),
            (("part", "z", 1, 0), ref("u.y")), (ref("u.a"), ("add", ref("x"), lit(1))), (ref("u.b"), pick("x", 0)),
        ])

    def test_expressions_that_are_read_as_targets(self):
        text = "wire p, q[4], r[4]; use u = cell(1, 8)(y: {p, {q[n], r[3:1]}});"
        self.assertEqual(drives(text, arguments=(2,), others=CELL)[2:], [
            (("cat", (ref("p"), ("cat", (pick("q", 2), ("part", "r", 3, 1))))), ref("u.y")),
        ])

    def test_ports_may_be_left_out(self):
        self.assertEqual(len(drives("use u = cell(1, 1)();", others=CELL)), 2)

    def test_instances_inside_instances(self):
        others = "unit outer(k) in a; out y; use v = cell(1, k)(a: a, y: y); end " + CELL
        found = design("in x; out z; each i in 0..2 { use u = outer(i + 1)(a: x); } use u = outer(5)(y: z);", others=others)
        self.assertEqual(found.names[2:8], ["i[0].u.a", "i[0].u.y", "i[0].u.v.a", "i[0].u.v.b", "i[0].u.v.y", "i[0].u.v.w"])
        self.assertEqual(found.width["i[1].u.v.y"], 2)
        self.assertEqual(found.width["u.v.y"], 5)
        self.assertEqual(found.drives[-1], (ref("z"), ref("u.y")))
        self.assertEqual(found.drives[2:5], [
            (ref("i[0].u.v.a"), ref("i[0].u.a")), (ref("i[0].u.y"), ref("i[0].u.v.y")), (ref("i[0].u.a"), ref("x")),
        ])

    def test_scopes_of_other_units_are_not_visible(self):
        found = drives("wire a; use u = v()(); a = n;", arguments=(9,), others="unit v() wire a; func n(x) { give x; } a = n(a); end")
        self.assertEqual(found, [(ref("u.a"), ("call", "u.n", (ref("u.a"),))), (A, lit(9))])

    def test_ports_inside_given_are_ports(self):
        others = "unit v(n) given n { in p; } else { out p; } each i in 0..1 { in q; } end"
        self.assertEqual(drives("wire w; use u = v(1)(p: w);", others=others), [(ref("u.p"), ref("w"))])
        self.assertEqual(drives("wire w; use u = v(0)(p: w);", others=others), [(ref("w"), ref("u.p"))])

    def test_units_may_use_themselves(self):
        text = "unit t(n) in a; out y; given n { use u = t(n - 1)(a: a, y: y); } else { y = a; } end"
        found = design_of(text, top="t", arguments=(2,))
        self.assertEqual(found.names, ["a", "y", "u.a", "u.y", "u.u.a", "u.u.y"])
        self.assertEqual(found.kind["a"], "in")
        self.assertEqual(found.kind["u.u.a"], "wire")
        self.assertEqual(found.drives[0], (ref("u.u.y"), ref("u.u.a")))

    def test_processes_of_instances(self):
        others = "unit v(n) in d; reg r[2] = n; var x; tick { r <- d + x; } when { x = r[0]; } end"
        found = design("in d; use a = v(1)(d: d); use b = v(2)();", others=others)
        self.assertEqual(found.reset, {"a.r": "01", "b.r": "10"})
        self.assertEqual(found.ticks, [
            (("next", ref(f"{name}.r"), ("add", ref(f"{name}.d"), ref(f"{name}.x"))),) for name in "ab"
        ])
        self.assertEqual(found.whens[1], (("set", ref("b.x"), pick("b.r", 0)),))

    def test_names_of_instances_in_different_scopes(self):
        found = design("use u = v()(); each i in 0..1 { use u = v()(); }", others="unit v() wire w; end")
        self.assertEqual(found.names, ["u.w", "i[0].u.w"])


class ProcessesTest(unittest.TestCase):
    def test_when(self):
        found = design("in a[2]; var v[4], w; when { v = a; v[a] = w; {w, v[n:0]} = 7; v[n] = 1; }", (2,))
        self.assertEqual(found.whens, [(
            ("set", ref("v"), A), ("set", ("pick", "v", A), ref("w")),
            ("set", ("cat", (ref("w"), ("part", "v", 2, 0))), lit(7)), ("set", pick("v", 2), lit(1)),
        )])
        self.assertEqual(found.ticks, [])

    def test_tick(self):
        found = design("in a; reg r[4], s; tick { r <- r + a; } tick { if a { s <- r[0]; } }")
        self.assertEqual(found.ticks, [
            (("next", ref("r"), ("add", ref("r"), A)),),
            (("if", A, (("next", ref("s"), pick("r", 0)),), ()),),
        ])
        self.assertEqual(found.whens, [])

    def test_empty_processes_stay(self):
        found = design("when {} tick {} when {} tick { loop i in 0..0 { x = y; } }")
        self.assertEqual((found.whens, found.ticks), ([(), ()], [(), ()]))

    def test_if_and_case(self):
        found = design("in a, b; var v; when { if a { v = 0; } else if b {} case a { 0, 2'b1x: { v = b; } 1: {} else { v = n; } } }", (6,))
        self.assertEqual(found.whens, [(
            ("if", A, (("set", ref("v"), lit(0)),), (("if", B, (), ()),)),
            ("case", A, ((("0", "1x"), (("set", ref("v"), B),)), (("1",), ())), (("set", ref("v"), lit(6)),)),
        )])

    def test_conditions_are_not_simplified(self):
        found = design("var v; when { if n { v = 0; } if 0 {} case n { 1: {} } }", (1,))
        self.assertEqual(found.whens, [(
            ("if", lit(1), (("set", ref("v"), lit(0)),), ()), ("if", lit(0), (), ()), ("case", lit(1), ((("1",), ()),), ()),
        )])

    def test_loops(self):
        found = design("in a[4]; var v[4], w; when { w = 0; loop i in 1..n { v[i] = a[i - 1]; w = i; } w = 1; }", (3,))
        self.assertEqual(found.whens, [(
            ("set", ref("w"), lit(0)),
            ("set", pick("v", 1), pick("a", 0)), ("set", ref("w"), lit(1)),
            ("set", pick("v", 2), pick("a", 1)), ("set", ref("w"), lit(2)),
            ("set", ref("w"), lit(1)),
        )])

    def test_loops_inside_loops_and_blocks(self):
        found = design("reg r; tick { loop i in 0..2 { if r { loop j in i..2 { r <- i + j; } } } }")
        def step(i, j):
            return ("next", ref("r"), ("add", lit(i), lit(j)))
        self.assertEqual(found.ticks, [(
            ("if", ref("r"), (step(0, 0), step(0, 1)), ()), ("if", ref("r"), (step(1, 1),), ()),
        )])

    def test_names_of_loops_hide_outer_names(self):
        found = design("in i[4]; var v; when { loop i in n..3 { v = i; } v = i; }", (2,))
        self.assertEqual(found.whens, [(("set", ref("v"), lit(2)), ("set", ref("v"), ref("i")))])
        found = design("var v; when { loop n in 0..n { v = n; loop n in n..1 { v = n; } } v = n; }", (1,))
        self.assertEqual(found.whens, [(("set", ref("v"), lit(0)), ("set", ref("v"), lit(0)), ("set", ref("v"), lit(1)))])

    def test_processes_inside_each(self):
        found = design("each i in 0..2 { var v; reg r[2]; when { v = i; } tick { r[v] <- i; } }")
        self.assertEqual(found.whens, [(("set", ref(f"i[{k}].v"), lit(k)),) for k in (0, 1)])
        self.assertEqual(found.ticks, [(("next", ("pick", f"i[{k}].r", ref(f"i[{k}].v")), lit(k)),) for k in (0, 1)])

    def test_a_process_may_assign_a_name_twice(self):
        self.assertEqual(len(design("var v; when { v = 0; v = 1; if v { v = 0; } }").whens[0]), 3)

    def test_a_loop_without_repetitions_assigns_nothing(self):
        found = design("var v; when { loop i in 0..0 { v = 1; } } when { v = 0; }")
        self.assertEqual(found.whens, [(), (("set", ref("v"), lit(0)),)])


class FunctionsTest(unittest.TestCase):
    def test_functions(self):
        found = design("func f(a[4], b)[n] { a = a + b; give a[n:0]; } func g(x) { give x; }", (2,))
        self.assertEqual(found.functions, {
            "f": ((("a", 4), ("b", 1)), 2, (("set", A, ("add", A, B)), ("give", ("part", "a", 2, 0)))),
            "g": ((("x", 1),), 1, (("give", ref("x")),)),
        })
        self.assertEqual(list(found.functions), ["f", "g"])

    def test_statements(self):
        found = design("""func f(a[4], b) { if b { a[b] = 1; } else { {b, a[1:0]} = a; } case a { 1: { b = 0; } }
            loop i in 0..2 { a[i] = b; } give a; }""")
        self.assertEqual(found.functions["f"][2], (
            ("if", B, (("set", ("pick", "a", B), lit(1)),), (("set", ("cat", (B, ("part", "a", 1, 0))), A),)),
            ("case", A, ((("1",), (("set", B, lit(0)),)),), ()),
            ("set", pick("a", 0), B), ("set", pick("a", 1), B), ("give", A),
        ))

    def test_functions_that_call_functions(self):
        found = design("func f(a) { give a; } func g(a)[3] { give f(a) + f(f(a)); } wire w; w = g(1);")
        self.assertEqual(found.functions["g"][2], (("give", ("add", ("call", "f", (A,)), ("call", "f", (("call", "f", (A,)),)))),))
        self.assertEqual(found.drives, [(ref("w"), ("call", "g", (lit(1),)))])

    def test_flat_names(self):
        others = "unit v() func f(a) { give a; } each i in 0..1 { func g(a) { give f(a); } } end"
        found = design("use u = v()();", others=others)
        self.assertEqual(found.functions["u.i[0].g"], ((("a", 1),), 1, (("give", ("call", "u.f", (A,))),)))
        self.assertEqual(list(found.functions), ["u.f", "u.i[0].g"])

    def test_constants_are_visible_inside(self):
        found = design("each i in 3..4 { func f(a) { give a + i + n; } }", (8,))
        self.assertEqual(found.functions["i[3].f"][2], (("give", ("add", ("add", A, lit(3)), lit(8))),))

    def test_parameters_hide_outer_names(self):
        found = design("in s[9]; func f(n[n], s[2], f) { give n[s] + s[1:0] + f; }", (5,))
        self.assertEqual(found.functions["f"], ((("n", 5), ("s", 2), ("f", 1)), 1, (
            ("give", ("add", ("add", ("pick", "n", ref("s")), ("part", "s", 1, 0)), ref("f"))),
        )))

    def test_widths_of_parameters_are_evaluated_outside(self):
        found = design("func f(n[2], m[n]) { give m; }", (7,))
        self.assertEqual(found.functions["f"][0], (("n", 2), ("m", 7)))

    def test_functions_of_outer_scopes_with_the_same_name(self):
        found = design("func f(a) { give a; } each i in 0..1 { func f(a) { give f(a); } wire w; w = f(1); }")
        self.assertEqual(found.functions["i[0].f"][2], (("give", ("call", "f", (A,))),))
        self.assertEqual(found.drives, [(ref("i[0].w"), ("call", "i[0].f", (lit(1),)))])

    def test_names_of_loops_hide_parameters(self):
        found = design("func f(a, b) { loop a in 0..1 { b = a; } give a; }")
        self.assertEqual(found.functions["f"][2], (("set", B, lit(0)), ("give", A)))


class WholeTest(unittest.TestCase):
    def test_the_example_of_the_document(self):
        text = "unit t() in a[2]; out b[2]; each i in 0..2 { wire w; w = a[i]; b[1 - i] = w; } end"
        found = design_of(text, top="t")
        self.assertEqual(found.drives[1], (("pick", "b", ("lit", "1")), ("ref", "i[0].w")))

    def test_elaborate_and_design_of_agree(self):
        text = "unit v(n) in a[n]; end unit t(n) reg r = n; use u = v(n + 1)(a: r); tick { r <- 0; } end"
        one, two = elaborate(parse(text), top="t", arguments=(2,)), design_of(text, top="t", arguments=(2,))
        for field in ("names", "kind", "width", "reset", "drives", "whens", "ticks", "functions"):
            self.assertEqual(getattr(one, field), getattr(two, field), field)

    def test_the_arguments_do_not_change(self):
        units = parse("unit t(n) in a[n]; var v; when { loop i in 0..n { v = a[i]; } } end")
        before = copy.deepcopy(units)
        elaborate(units, top="t", arguments=(3,))
        self.assertEqual(units, before)

    def test_calls_do_not_share_state(self):
        text = "unit t() wire a; a = 1; func f(x) { give x; } end"
        one = design_of(text, top="t")
        one.names.append("b")
        one.width["b"] = 1
        self.assertEqual(design_of(text, top="t").names, ["a"])

    def test_keywords_are_needed(self):
        with self.assertRaises(TypeError):
            design_of("unit t() end", "t")
        with self.assertRaises(TypeError):
            elaborate((), "t")

    def test_designs_at_all_limits_of_depth(self):
        deep = " + ".join(["(a[" + "~" * 17 + "a])"] + ["a"] * 10)
        inner = "if a { " * 19 + f"v = {deep};" + "}" * 19
        text = f"unit t(n) in a; var v; when {{ {inner} }} given n {{ use u = t(n - 1)(); }} end"
        self.assertEqual(len(design_of(text, top="t", arguments=(13,)).names), 28)
        wrapped = "each i in 0..1 { " * 8 + "use u = t(n - 1)();" + "}" * 8
        text = f"unit t(n) in a; given n {{ {wrapped} }} end"
        self.assertEqual(len(design_of(text, top="t", arguments=(13,)).names), 14)


if __name__ == "__main__":
    unittest.main()
