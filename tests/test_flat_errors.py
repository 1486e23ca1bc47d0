import unittest

from clockwright.flat import design_of, elaborate
from clockwright.items import parse
from helpers import failure

CELL = "unit cell(n) in a[4]; in b; out y[4]; wire w; reg r; y = a; end"


def refused(text, arguments=(), others=CELL):
    parameters = ", ".join("nmk"[:len(arguments)])
    return failure(design_of, f"unit t({parameters}) {text} end {others}", top="t", arguments=arguments)


class Checks(unittest.TestCase):
    def check(self, cases, error, before="", after="", **keywords):
        for text, name in cases:
            self.assertEqual(refused(before + text + after, **keywords), (error, name), text)

    def accept(self, texts, before="", **keywords):
        for text in texts:
            self.assertIsNone(refused(before + text, **keywords), text)


class TopTest(Checks):
    UNITS = parse("unit t(n, n) in a[0]; end unit v() end unit w(n) in a[n]; end unit unused(n, m) end")

    def refused(self, top, arguments):
        return failure(elaborate, self.UNITS, top=top, arguments=arguments)

    def test_the_top_unit(self):
        self.assertEqual(self.refused("x", ()), ("Unknown", "x"))
        self.assertEqual(self.refused("n", (1, 2)), ("Unknown", "n"))

    def test_the_number_of_arguments(self):
        for top, arguments in (("v", (1,)), ("w", ()), ("w", (1, 2)), ("t", (1,))):
            self.assertEqual(self.refused(top, arguments), ("Misused", top))

    def test_the_range_of_arguments(self):
        for number in (-1, 2 ** 64, 2 ** 70, -2 ** 64):
            self.assertEqual(self.refused("w", (number,)), ("Width", "constant"))
        for number in (-1, 2 ** 64, 2 ** 70):
            self.assertEqual(self.refused("unused", (0, number)), ("Width", "constant"))
            self.assertEqual(self.refused("unused", (number, 0)), ("Width", "constant"))
        self.assertIsNone(self.refused("unused", (0, 2 ** 64 - 1)))
        self.assertEqual(self.refused("w", (2 ** 64 - 1,)), ("Width", "a"))
        self.assertIsNone(self.refused("w", (64,)))

    def test_the_order(self):
        self.assertEqual(self.refused("w", (-1, 5)), ("Misused", "w"))
        self.assertEqual(self.refused("t", (1, -1)), ("Width", "constant"))
        self.assertEqual(self.refused("t", (1, 1)), ("Twice", "n"))

    def test_design_of_parses_first(self):
        self.assertEqual(failure(design_of, "unit t( end", top="x"), ("Malformed", 8))
        self.assertEqual(failure(design_of, "unit t() end", top="x"), ("Unknown", "x"))
        self.assertEqual(failure(design_of, " " * 20001, top="t"), ("Unbounded", "text"))


class UnknownTest(Checks):
    def test_names_that_are_not_declared(self):
        self.check([
            ("wire a; a = q;", "q"), ("q = 1;", "q"), ("q[0] = 1;", "q"), ("q[1:0] = 1;", "q"), ("wire a; {a, q} = 1;", "q"),
            ("wire a; a = q[0];", "q"), ("wire a; a = q[1:0];", "q"), ("wire a; a = q(1);", "q"), ("wire a; a = a[q];", "q"),
            ("wire a; a = a + {2: {a, ~q}};", "q"), ("when { q = 1; }", "q"), ("tick { q <- 1; }", "q"),
            ("when { if q {} }", "q"), ("when { case q { 1: {} } }", "q"), ("var v; when { v[q] = 1; }", "q"),
            ("wire a[q];", "q"), ("reg a = q;", "q"), ("each i in q..1 {}", "q"), ("each i in 0..q {}", "q"),
            ("given q {}", "q"), ("when { loop i in q..1 {} }", "q"), ("when { loop i in 0..q {} }", "q"),
            ("wire a; a = {q: a};", "q"), ("wire a; a = a[q:0];", "q"), ("wire a; a = a[0:q];", "q"), ("func f(a[q]) { give a; }", "q"),
            ("func f(a)[q] { give a; }", "q"), ("func f(a) { give q; }", "q"), ("func f(a) { q = 1; give a; }", "q"),
            ("use u = cell(q)();", "q"), ("use u = q()();", "q"), ("use u = cell(1)(q: 1);", "q"), ("use u = cell(1)(a: q);", "q"),
            ("use u = cell(1)(y: q);", "q"),
        ], "Unknown")

    def test_names_that_are_declared_later(self):
        self.check([("wire a; a = b; wire b;", "b"), ("a = 1; wire a;", "a"), ("wire a; a = f(1); func f(x) { give x; }", "f"),
                    ("when { v = 1; } var v;", "v"), ("func f(x) { give f(x); }", "f"),
                    ("func f(x) { give g(x); } func g(x) { give x; }", "g")], "Unknown")

    def test_names_of_other_scopes(self):
        self.check([
            ("each i in 0..1 { wire w; } w = 1;", "w"), ("wire a; each i in 0..1 {} a = i;", "i"),
            ("wire a; use u = cell(1)(); a = w;", "w"), ("wire w; use u = v()(); each i in 0..1 { wire x; }", "w"),
            ("when { loop i in 0..1 {} if i {} }", "i"), ("wire a; func f(x) { give x; } a = x;", "x"),
            ("each i in 0..2 { given i == 0 { wire w; } w = 1; }", "w"), ("wire a; a = r;", "r"),
            ("each i in i..2 {}", "i"), ("when { loop i in i..2 {} }", "i"), ("use u = cell(n)();", "n"),
        ], "Unknown", others=CELL + " unit v() w = 1; end")

    def test_ports_that_the_unit_does_not_have(self):
        self.check([("use u = cell(1)(w: 1);", "w"), ("use u = cell(1)(r: 1);", "r"), ("use u = cell(1)(n: 1);", "n"),
                    ("use u = cell(1)(cell: 1);", "cell"), ("wire x; use u = cell(1)(x: x);", "x")], "Unknown")
        self.check([("use u = v()(p: 1);", "p"), ("use u = v()(f: 1);", "f"), ("use u = v()(c: 1);", "c")], "Unknown",
                   others=CELL + " unit v() each i in 0..1 { in p; } func f(x) { give x; } use c = cell(1)(); end")

    def test_constant_expressions_know_constants_alone(self):
        self.check([("in a; wire b[a];", "a"), ("in a; wire b; b = b[a:0];", "a"), ("use u = cell(1)(); wire b[u];", "u"),
                    ("func f(x) { give x; } given f {}", "f"), ("in n; each i in 0..1 { wire n[2]; given n {} }", "n"),
                    ("each i in 2..3 { wire i0; in q[i0]; }", "i0")], "Unknown")
        self.check([("each i in 0..1 { wire n; wire q[n]; }", "n")], "Unknown", arguments=(3,))

    def test_signals_are_not_visible_in_functions(self):
        before = "in s[2]; use u = cell(1)(); each s0 in 0..1 {} "
        self.check([("func f(a) { give s; }", "s"), ("func f(a) { give s[0]; }", "s"), ("func f(a) { give s[1:0]; }", "s"),
                    ("func f(a) { give a[s]; }", "s"), ("func f(a) { s = a; give a; }", "s"), ("func f(a) { give u; }", "u"),
                    ("func f(a) { if s {} give a; }", "s"), ("func f(a) { give s(a); }", "s"), ("func f(a) { u = 1; give a; }", "u"),
                    ("func f(a) { loop i in 0..1 { a = s; } give a; }", "s")], "Unknown", before)

    def test_signals_still_hide_outer_names_in_functions(self):
        self.check([("each i in 0..1 { wire n; func f(a) { give n; } }", "n"),
                    ("each i in 0..1 { use n = cell(1)(); func f(a) { give a + n; } }", "n"),
                    ("func g(x) { give x; } each i in 0..1 { wire g; func f(a) { give g(a); } }", "g"),
                    ("each i in 0..1 { wire n; func f(a) { give a[n:0]; } }", "n")], "Unknown", arguments=(1,))


class TwiceTest(Checks):
    def test_names_in_one_scope(self):
        self.check([("wire a; wire a;", "a"), ("in a; reg a;", "a"), ("in a, b, a;", "a"), ("var a; use a = cell(1)();", "a"),
                    ("use a = cell(1)(); wire a;", "a"), ("func a(x) { give x; } wire a;", "a"), ("wire a; func a(x) { give x; }", "a"),
                    ("use a = cell(1)(); use a = cell(1)();", "a"), ("each i in 0..1 { wire i; }", "i"),
                    ("each i in 0..1 { use i = cell(1)(); }", "i"), ("given 1 { wire a; } wire a;", "a"),
                    ("given 1 { wire a; given 0 {} else { out a; } }", "a"), ("func a(x) { give x; } func a(x) { give x; }", "a")], "Twice")
        self.check([("wire n;", "n"), ("func n(x) { give x; }", "n"), ("use n = cell(1)();", "n")], "Twice", arguments=(1,))

    def test_flat_names(self):
        self.check([("each i in 0..1 { wire a; } each i in 0..1 { wire a; }", "a"),
                    ("each i in 0..2 { wire a; } each i in 1..2 { func a(x) { give x; } }", "a"),
                    ("each i in 0..1 { func a(x) { give x; } } each i in 0..1 { func a(x) { give x; } }", "a"),
                    ("each i in 0..1 { func a(x) { give x; } } each i in 0..1 { reg a; }", "a"),
                    ("each i in 0..1 { use u = cell(1)(); } each i in 0..1 { use u = cell(1)(); }", "a")], "Twice")
        self.accept(["each i in 0..1 { wire a; } each i in 1..2 { wire a; } each j in 0..1 { wire a; }",
                     "each i in 0..1 { use u = v()(); } each i in 0..1 { use u = v()(); }"], others="unit v() given 0 { wire a; } end")

    def test_ports(self):
        self.check([("use u = cell(1)(a: 1, a: 2);", "a"), ("wire x[8]; use u = cell(1)(y: x[3:0], a: 1, y: x[7:4]);", "y"),
                    ("use u = cell(1)(b: 1, a: 1, b: q);", "b")], "Twice")

    def test_parameters(self):
        self.check([("func f(a, b, a) { give a; }", "a")], "Twice")
        self.assertEqual(failure(design_of, "unit t(n, m, n) end", top="t", arguments=(1, 2, 3)), ("Twice", "n"))
        self.check([("use u = v(1, 2)();", "p")], "Twice", others="unit v(p, p) wire a[0]; end")

    def test_loops_and_repetitions_have_scopes_of_their_own(self):
        self.accept(["wire i; each i in 0..1 { wire j; each j in 0..1 {} } when { loop i in 0..1 { loop i in 0..1 {} } }"])


class MisusedTest(Checks):
    def test_names_in_expressions(self):
        before = "wire a; reg r; use u = cell(1)(); func f(x) { give x; } "
        self.check([("a = u;", "u"), ("a = f;", "f"), ("a = u[0];", "u"), ("a = f[0];", "f"), ("a = u[0:0];", "u"), ("a = r(1);", "r"),
                    ("a = u(1);", "u")], "Misused", before)
        self.check([("a = n[0];", "n"), ("a = n[0:0];", "n"), ("a = n(1);", "n"), ("when { if n[0] {} }", "n")], "Misused", before, arguments=(1,))
        self.check([("each i in 0..1 { a = i[0]; }", "i"), ("when { loop i in 0..1 { if i(1) {} } }", "i")], "Misused", before)

    def test_targets_of_drives(self):
        before = "in i; reg r; var v; wire w[4]; out o; use u = cell(1)(); func f(x) { give x; } "
        self.check([("i = 1;", "i"), ("r = 1;", "r"), ("v = 1;", "v"), ("u = 1;", "u"), ("f = 1;", "f"), ("n = 1;", "n"),
                    ("i[0] = 1;", "i"), ("r[0:0] = 1;", "r"), ("{o, {w, v}} = 1;", "v"), ("each k in 0..1 { k = 1; }", "k")],
                   "Misused", before, arguments=(1,))
        self.accept(["w = 1; o = 1;"], before)

    def test_indexes_of_drives_are_constant(self):
        before = "in i; wire w[4], x[4]; "
        self.check([("w[i] = 1;", "w"), ("w[x[0]] = 1;", "w"), ("{x, w[i + 1]} = 1;", "w"), ("w[0 - 1] = 1;", "w"),
                    ("w[{1}] = 1;", "w"), ("use u = cell(1)(y: x[i]);", "x")], "Misused", before)

    def test_ports_of_the_own_unit(self):
        self.check([("use u = v()();", "a")], "Misused", others="unit v() in a; a = 1; end")
        self.check([("in a; use u = cell(1)(y: a);", "a"), ("reg a; use u = cell(1)(y: {a});", "a")], "Misused")

    def test_targets_of_processes(self):
        before = "in i; reg r; var v; wire w[4]; out o; use u = cell(1)(); func f(x) { give x; } "
        for name in ("i", "r", "w", "o", "u", "f", "n"):
            self.check([(f"when {{ {name} = 1; }}", name), (f"when {{ v = 1; {name}[0] = 1; }}", name),
                        (f"when {{ if i {{ {{v, {name}[0:0]}} = 1; }} }}", name)], "Misused", before, arguments=(1,))
        for name in ("i", "v", "w", "o", "u", "f", "n"):
            self.check([(f"tick {{ {name} <- 1; }}", name), (f"tick {{ r <- 1; {name}[0] <- 1; }}", name),
                        (f"tick {{ case i {{ 1: {{ {{r, {name}[0:0]}} <- 1; }} }} }}", name)], "Misused", before, arguments=(1,))
        self.check([("when { loop v in 0..1 { v = 1; } }", "v"), ("tick { loop r in 0..1 { r[0] <- 1; } }", "r")], "Misused", before)

    def test_targets_of_functions(self):
        before = "func g(x) { give x; } "
        self.check([("func f(a) { n = 1; give a; }", "n"), ("func f(a) { g = 1; give a; }", "g"), ("func f(a) { g[0] = 1; give a; }", "g"),
                    ("func f(a) { loop a in 0..1 { a = 1; } give a; }", "a")], "Misused", before, arguments=(1,))

    def test_names_in_functions(self):
        before = "func g(x) { give x; } "
        self.check([("func f(a) { give g; }", "g"), ("func f(a) { give a(1); }", "a"), ("func f(a) { give n[0]; }", "n"),
                    ("func f(a) { give n(a); }", "n"), ("func f(a, g) { give g(a); }", "g")], "Misused", before, arguments=(1,))

    def test_statements(self):
        before = "reg r; var v; "
        self.check([("when { r <- 1; }", "next"), ("tick { v = 1; }", "set"), ("when { give 1; }", "give"), ("tick { give 1; }", "give"),
                    ("when { if 1 { v <- 1; } }", "next"), ("tick { case 1 { 1: { r <- 1; r = 1; } } }", "set"),
                    ("tick { loop i in 0..2 { r = 1; } }", "set"), ("when { if 1 {} else { give v; } }", "give"),
                    ("func f(a) { a <- 1; give a; }", "next"), ("func f(a) { give a; give a; }", "give"),
                    ("func f(a) { if a { give a; } give a; }", "give"), ("func f(a) { loop i in 0..1 { give a; } give a; }", "give"),
                    ("func f(a) { case a { else { a <- 1; } } give a; }", "next")], "Misused", before)

    def test_functions_end_with_give(self):
        self.check([("func f(a) {}", "give"), ("func f(a) { a = 1; }", "give"), ("func f(a) { if a { give a; } else { give 1; } }", "give"),
                    ("func f(a) { give a; a = 1; }", "give"), ("func f(a) { loop i in 0..1 { give a; } }", "give")], "Misused")

    def test_statements_in_loops_that_do_not_run(self):
        self.accept(["when { loop i in 0..0 { give q; } } func f(a) { loop i in 1..0 { give a; } give a; }"])

    def test_expressions_that_are_no_targets(self):
        self.check([("wire w; use u = cell(1)(y: w + w);", "y"), ("use u = cell(1)(y: 1);", "y"), ("wire w; use u = cell(1)(y: {w, ~w});", "y"),
                    ("wire w; use u = cell(1)(y: {w, {2: w}});", "y"), ("wire w; use u = cell(1)(y: {2: w});", "y"),
                    ("wire w; use u = cell(1)(y: w ? w : w);", "y")], "Misused")

    def test_numbers_of_arguments(self):
        self.check([("use u = cell()();", "cell"), ("use u = cell(1, 2)();", "cell"), ("wire w; func f(a, b) { give a; } w = f(1);", "f"),
                    ("wire w; func f(a) { give a; } w = f(1, 2);", "f")], "Misused")

    def test_constant_expressions(self):
        self.check([("wire w[~1];", "constant"), ("reg r = 1'bx;", "constant"), ("given {1} {}", "constant"), ("in a; wire w[a[0]];", "constant"),
                    ("each i in 0..-1 {}", "constant"), ("use u = cell(f(1))();", "constant"), ("wire w; w = {~2: w};", "constant"),
                    ("wire w; w = w[&1:0];", "constant"), ("when { loop i in 1 === 1..2 {} }", "constant")], "Misused")


class WidthTest(Checks):
    def test_declarations(self):
        for kind in ("in", "out", "wire", "var", "reg"):
            self.accept([f"{kind} a[1]; {kind} b[64];"])
            for width in ("0", "65", "18446744073709551615"):
                self.check([(f"{kind} a[{width}];", "a")], "Width")

    def test_flat_names_are_told(self):
        self.check([("each i in 2..3 { wire a[0]; }", "i[2].a"), ("use u = v()();", "u.a")], "Width", others="unit v() in a[65]; end")

    def test_functions(self):
        self.accept(["func f(a[64], b[1])[64] { give a; }"])
        self.check([("func f(a[0]) { give a; }", "a"), ("func f(b, a[65]) { give a; }", "a"), ("func f(a)[0] { give a; }", "f"),
                    ("func f(a)[65] { give a; }", "f"), ("each i in 0..1 { func f(a[0]) { give a; } }", "a")], "Width")

    def test_parts_in_expressions(self):
        before = "in a[4]; wire w; "
        self.accept(["w = a[3:0];", "w = a[3:3] + a[0:0];"], before)
        self.check([("w = a[4:0];", "a"), ("w = a[1:2];", "a"), ("w = a[4:4];", "a"), ("w = w[1:0];", "w"),
                    ("w = a[18446744073709551615:0];", "a"), ("each i in 0..1 { wire b; w = b[1:0]; }", "i[0].b"),
                    ("var v; when { if a[9:8] {} }", "a"), ("func f(x[2]) { give x[2:0]; }", "x")], "Width", before)

    def test_targets(self):
        before = "wire a[4]; reg r[2]; var v[3]; "
        self.accept(["a[3] = 1;", "a[3:0] = 1;", "tick { r[1] <- 1; }", "when { v[2:2] = 1; }"], before)
        self.check([("a[4] = 1;", "a"), ("a[4:0] = 1;", "a"), ("a[0:1] = 1;", "a"), ("tick { r[2] <- 1; }", "r"), ("tick { r[2:1] <- 1; }", "r"),
                    ("when { v[3] = 1; }", "v"), ("when { v[0:1] = 1; }", "v"), ("when { {v[0], v[n]} = 1; }", "v"),
                    ("func f(x[2]) { x[2] = 1; give x; }", "x"), ("func f(x[2]) { x[2:0] = 1; give x; }", "x"),
                    ("use u = cell(1)(y: a[4:1]);", "a"), ("each i in 0..1 { wire w; w[1] = 1; }", "i[0].w")], "Width", before, arguments=(3,))

    def test_widths_of_expressions(self):
        before = "in a[64], b; wire w; var v[2]; reg r; func f(x) { give x; } "
        self.accept(["w = {a};", "w = {64: b};", "w = {a[62:0], b};"], before)
        self.check([("w = {a, b};", 65), ("w = {65: b};", 65), ("w = ~{b, a} + 1;", 65), ("w = f({a, b});", 65), ("w = b[{a, a}];", 128),
                    ("w = {{a, b}, {a, a}};", 65), ("w = {18446744073709551615: b};", 2 ** 64 - 1), ("when { if {a, b} {} }", 65),
                    ("when { case {a, b} { 1: {} } }", 65), ("when { v = {a, b}; }", 65), ("when { v[{a, b}] = 1; }", 65),
                    ("tick { r <- {a, b}; }", 65), ("func g(x[64]) { give {x, x}; }", 128), ("use u = cell(1)(a: {a, b});", 65)], "Width", before)

    def test_widths_of_targets(self):
        before = "wire a[64], b; var v[40], w[40]; reg r[64]; "
        self.check([("{a, b} = 1;", 65), ("when { {v, w} = 1; }", 80), ("tick { {r, r[0]} <- 1; }", 65), ("use u = cell(1)(y: {b, {a}});", 65),
                    ("when { {{v, w}, v} = 1; }", 80)], "Width", before)

    def test_repetitions_with_count_0(self):
        before = "wire w; "
        self.check([("w = {0: w};", 0), ("w = {n - 1: w};", 0), ("w = {1, {0: {65: w}}};", 0), ("w = w[{0: w}];", 0)], "Width", before, arguments=(1,))

    def test_constants(self):
        self.check([("wire w[0 - 1];", "constant"), ("reg r = 1 << 64;", "constant"), ("given 18446744073709551615 + 1 {}", "constant"),
                    ("each i in 0..0 - 1 {}", "constant"), ("use u = cell(1 - 2)();", "constant"), ("wire w; w = w[1 - 2:0];", "constant"),
                    ("wire w; w = {1 - 2: w};", "constant"), ("when { loop i in 1 - 2..1 {} }", "constant")], "Width")


class DrivenTest(Checks):
    def test_drives(self):
        before = "wire a[4], b[4]; out o; "
        self.check([("a = 1; a = 2;", "a"), ("a[1] = 1; a = 2;", "a"), ("a = 1; a[3] = 2;", "a"), ("a[2:1] = 1; a[3:2] = 2;", "a"),
                    ("a[0] = 1; a[0] = 1;", "a"), ("o = 1; o = 1;", "o"), ("{a, b, a} = 1;", "a"), ("{a[1], a[2:1]} = 1;", "a"),
                    ("b[0] = 1; {o, b[1:0], a} = 1;", "b"), ("a = 1; {o, a, b} = 1;", "a"), ("{o, b, b, a} = 1;", "b"),
                    ("each i in 0..2 { a[1] = i; }", "a"), ("each i in 0..1 { wire w; w = 1; w = 1; }", "i[0].w")], "Driven", before)
        self.accept(["a[1:0] = 1; a[3] = 1; a[2] = 1; {b[3], o, b[2:0]} = 1;"], before)

    def test_connections(self):
        self.check([("wire a[4]; a = 1; use u = cell(1)(y: a);", "a"), ("wire a[4]; use u = cell(1)(y: a); a[2] = 1;", "a"),
                    ("wire a; use u = cell(1)(y: a); use v = cell(1)(y: a);", "a"), ("use u = v()();", "u.a")],
                   "Driven", others=CELL + " unit v() out a; a = 1; a = 0; end")

    def test_processes(self):
        before = "var v, w; reg r, s; "
        self.check([("when { v = 1; } when { v = 1; }", "v"), ("tick { r <- 1; } tick { r <- 1; }", "r"),
                    ("when { v = 1; w = 1; } when { if r { w = 0; } v = 1; }", "w"),
                    ("when { {w, v} = 1; } when { {v, w} = 0; }", "v"),
                    ("tick { r <- 0; s <- 0; } tick { case v { 1: { s <- 1; } else { r <- 1; } } }", "s"),
                    ("each i in 0..2 { when { v = i; } }", "v"), ("each i in 0..1 { var x; when { x = 1; } when { x[0] = 1; } }", "i[0].x")],
                   "Driven", before)
        self.accept(["when { v = 1; v = 0; } when { w = 1; w[0] = v; } tick { r <- 1; r <- 0; } tick { s <- r; }"], before)


class OrderTest(Checks):
    def test_items_in_the_order_of_the_text(self):
        self.check([("wire a; q = 1; wire a;", "q"), ("each i in 0..2 { a = q; wire w[i]; }", "q")], "Unknown")
        self.check([("wire a[0]; q = 1;", "a")], "Width")
        self.check([("each i in 0..2 { wire w[i]; given i { q = 1; } }", "i[0].w")], "Width")

    def test_declarations(self):
        self.check([("wire a; wire a[q];", "q"), ("reg a[q] = p;", "q"), ("reg a[1] = p; reg b[0];", "p"), ("wire a; reg a = q;", "q")], "Unknown")
        self.check([("wire a; wire a[0];", "a"), ("reg a[0] = q;", "a"), ("reg a[1 - 2] = q;", "constant"), ("reg a; reg a = 1 - 2;", "constant")], "Width")
        self.check([("wire a; wire a; q = 1;", "a")], "Twice")

    def test_drives(self):
        before = "in i; wire a[64]; "
        self.check([("p = q;", "q"), ("i = q;", "q"), ("a[64] = q;", "q"), ("{p, q} = 1;", "p"), ("q[p] = 1;", "q"), ("a = 1; {a, q} = 1;", "q"),
                    ("a = {a, a} + q;", "q"), ("a = p + q;", "p"), ("a = p > q;", "q"), ("a = q(p);", "q"),
                    ("a = p[q];", "p"), ("a = p[q:0];", "p"), ("a = a[p:q];", "p"), ("a = {p: q};", "p"), ("a = p ? q : r;", "p"),
                    ("a[q:0 - 1] = 1;", "q"), ("{a, a[q:0]} = 1;", "q")], "Unknown", before)
        self.check([("p = {a, a};", 128), ("{i, a} = {a, a, a};", 192), ("{a[65:64], q} = 1;", "a"), ("a = a[1 - 2:q];", "constant"),
                    ("a = a[64:0] + q;", "a"), ("a = {0: a} + {a, a};", 0), ("a[64] = 1; q = 1;", "a")], "Width", before)
        self.check([("i[q] = 1;", "i"), ("i[5] = 1;", "i"), ("i[1 - 2:0] = 1;", "i"), ("{i, q} = 1;", "i")], "Misused", before)

    def test_calls(self):
        before = "wire w; func f(a) { give a; } "
        self.check([("w = w(q);", "w")], "Misused", before)
        self.check([("w = g(p);", "g"), ("w = f(q);", "q")], "Unknown", before)

    def test_statements(self):
        before = "reg r[64]; var v[64]; "
        self.check([("when { p = q; }", "q"), ("tick { p <- q; }", "q"), ("tick { v <- q; }", "q"), ("when { if p { q = 1; } }", "p"),
                    ("when { case p { 1: { q = 1; } } }", "p"), ("when { if r { p = 1; } else { q = 1; } }", "p"),
                    ("when { case r { 1: { p = 1; } else { q = 1; } } }", "p"), ("when { loop i in p..q {} }", "p"),
                    ("when { p[q] = 1; }", "p"), ("when { v = 1; } when { v = q; }", "q"), ("when { v = 1; } when { v = 1; q = 1; }", "q"),
                    ("when { {v, v[q]} = 1; }", "q"), ("when { {v, q} = {v, q}; }", "q")], "Unknown", before)
        self.check([("when { p <- q; }", "next"), ("tick { p = q; }", "set"), ("when { give q; }", "give"), ("when { r[q] = 1; }", "r"),
                    ("when { r[64] = 1; }", "r")], "Misused", before)
        self.check([("when { v[{v, v}] = 1; q = 1; }", 128), ("when { {v[{v, v}], q} = 1; }", 128), ("when { {v, v} = 1; } when { v = 1; }", 128),
                    ("when { q = {v, v}; }", 128)], "Width", before)
        self.check([("when { v = 1; } when { v = 1; } q = 1;", "v")], "Driven", before)

    def test_functions(self):
        self.check([("func f(a[p], b[q])[r] { give s; }", "p"), ("func f(a, b[q])[r] {}", "q"), ("func f(a)[r] {}", "r"),
                    ("func f(a, a[q]) {}", "q"), ("wire f; func f(a) { a = q; give a; }", "q"), ("func f(a) { a = p; give q; }", "p"),
                    ("func f(a)[q] { give p; }", "q")], "Unknown")
        self.check([("func f(a, a)[q] {}", "a"), ("wire f; func f(a) { give a; } q = 1;", "f"), ("func f(a, a, b[0]) {}", "a")], "Twice")
        self.check([("func f(a) { a = q; }", "give"), ("func f(a) { b <- q; }", "give"), ("wire f; func f(a) {}", "give"),
                    ("func f(a) { give a; a = q; give p; }", "give")], "Misused")
        self.check([("func f(a[0], a[q]) {}", "a"), ("func f(a)[0] {}", "f"), ("func f(a, a[0]) {}", "a")], "Width")

    def test_instances(self):
        others = CELL + " unit v(p, p) q = 1; end unit w() in a; out y; q = 1; end"
        self.check([("use u = x(q)();", "x"), ("use u = cell(q)(s: s);", "q"), ("wire u; use u = cell(q)();", "q"), ("use u = w()(s: s);", "q"),
                    ("use u = cell(1)(s: q);", "s"), ("use u = cell(1)(a: q, s: 1);", "q"), ("use u = cell(1)(y: q, y: q);", "q"),
                    ("use u = cell(1)(s: 1, s: 1);", "s"), ("use u = cell(1)(y: {p, q});", "p")], "Unknown", others=others)
        self.check([("use u = cell()(s: s);", "cell"), ("use u = cell(q, q)();", "cell"), ("wire u; use u = cell()();", "cell"),
                    ("use u = cell(1)(y: 1, y: 2);", "y")], "Misused", others=others)
        self.check([("wire u; use u = v(1, 2)();", "u"), ("use u = v(1, 2)();", "p"), ("use u = cell(1)(a: 1, a: q);", "a"),
                    ("wire x[4]; use u = cell(1)(y: x, y: 1);", "y")], "Twice", others=others)

    def test_repetitions(self):
        self.check([("each i in p..q { r = 1; }", "p"), ("each i in 0..q { r = 1; }", "q"), ("given p { q = 1; }", "p")], "Unknown")


def chain_of_instances(many):
    return f"use u = v({many - 1})();", "unit v(n) given n { use u = v(n - 1)(); } end"


class LimitsTest(Checks):
    def test_instances_around_an_instance(self):
        text, others = chain_of_instances(13)
        self.assertIsNone(refused(text, others=others))
        text, others = chain_of_instances(14)
        self.assertEqual(refused(text, others=others), ("Unbounded", "depth"))

    def test_units_that_use_themselves_for_ever(self):
        self.assertEqual(failure(design_of, "unit t() use u = t()(); end", top="t"), ("Unbounded", "depth"))

    def test_each_and_given_are_no_instances(self):
        text = "unit v(n) each i in 0..1 { given n { use u = v(n - 1)(); } } end"
        self.assertIsNone(refused("use u = v(12)();", others=text))
        self.assertEqual(refused("use u = v(13)();", others=text), ("Unbounded", "depth"))

    def test_the_depth_of_instances_in_the_order_of_errors(self):
        def at_13(item, rest="unit w(p, p) q = 1; end"):
            return refused("use u = v(12)();", others=f"unit v(n) given n {{ use u = v(n - 1)(); }} else {{ {item} }} end {rest}")
        self.assertEqual(at_13("use x = w(1, 2)();"), ("Unbounded", "depth"))
        self.assertEqual(at_13("use x = w(1, q)();"), ("Unknown", "q"))
        self.assertEqual(at_13("use n = w(1, 2)();"), ("Twice", "n"))
        self.assertEqual(at_13("use x = w(1)();"), ("Misused", "w"))
        self.assertEqual(at_13("use x = y()();"), ("Unknown", "y"))

    def functions(self, many):
        text = "func f1(a) { give a; } "
        for k in range(2, many + 1):
            text += f"func f{k}(a) {{ give f{k - 1}(a); }} "
        return text

    def test_chains_of_functions(self):
        self.assertIsNone(refused(self.functions(4)))
        self.assertEqual(refused(self.functions(5)), ("Unbounded", "depth"))

    def test_chains_by_each_kind_of_call(self):
        for block in ("a = f4(a); give a;", "if f4(a) {} give a;", "case f4(a) { 1: {} } give a;", "a[f4(a)] = 1; give a;",
                      "if a {} else { a = f4(1); } give a;", "loop i in 0..1 { a = f4(a); } give a;", "give f1(f2(a + f4(a)));",
                      "give {f4(1), a};", "case a { 1: { a = f4(a); } } give a;"):
            self.assertEqual(refused(self.functions(4) + f"func g(a) {{ {block} }}"), ("Unbounded", "depth"), block)
            self.assertIsNone(refused(self.functions(4) + f"func g(a) {{ {block.replace('f4', 'f3')} }}"), block)

    def test_many_calls_are_no_chain(self):
        self.assertIsNone(refused(self.functions(3) + "func g(a) { give f3(f3(f3(f2(f1(a))))) + f3(a); } wire w; w = g(g(g(1)));"))
        self.assertIsNone(refused(self.functions(4) + "func g(a) { loop i in 0..0 { a = f4(a); } give a; }"))

    def test_chains_come_behind_the_block_and_before_the_name(self):
        self.assertEqual(refused(self.functions(4) + "func g(a) { a = f4(a); give q; }"), ("Unknown", "q"))
        self.assertEqual(refused(self.functions(4) + "wire g; func g(a) { give f4(a); }"), ("Unbounded", "depth"))

    def test_signals(self):
        self.assertIsNone(refused("each i in 0..200 { wire a; }"))
        self.assertEqual(refused("each i in 0..201 { wire a; }"), ("Unbounded", "signals"))
        self.assertEqual(refused("wire " + ", ".join(f"w{k}" for k in range(201)) + ";"), ("Unbounded", "signals"))
        self.assertIsNone(refused("each i in 0..40 { use u = cell(1)(); }"))
        self.assertEqual(refused("each i in 0..40 { use u = cell(1)(); } in x;"), ("Unbounded", "signals"))

    def test_functions_and_instances_are_no_signals(self):
        self.assertIsNone(refused("each i in 0..200 { wire a; func f(x) { give x; } use u = v()(); }", others="unit v() end"))

    def test_the_201st_signal_in_the_order_of_errors(self):
        before = "each i in 0..200 { wire a; } "
        self.assertEqual(refused(before + "wire b[0];"), ("Width", "b"))
        self.assertEqual(refused(before + "reg b = q;"), ("Unknown", "q"))
        self.assertEqual(refused(before + "wire n;", (1,)), ("Twice", "n"))
        self.assertEqual(refused(before + "each i in 0..1 { wire a; }"), ("Twice", "a"))
        self.assertEqual(refused(before + "wire b;"), ("Unbounded", "signals"))

    def count(self, before, text, many, **keywords):
        """Check that a text counts so many things behind another one."""
        rest = 2000 - many
        spent = f"each spent in 0..{rest - 1} {{}} "
        self.assertIsNone(refused(before + spent + text, **keywords), text)
        spent = f"each spent in 0..{rest} {{}} "
        self.assertEqual(refused(before + spent + text, **keywords), ("Unbounded", "items"), text)

    def test_repetitions_are_counted(self):
        self.assertIsNone(refused("each i in 0..1999 {}"))
        self.assertEqual(refused("each i in 0..2000 {}"), ("Unbounded", "items"))
        self.assertEqual(refused("each i in 0..18446744073709551615 {}"), ("Unbounded", "items"))
        self.assertIsNone(refused("when { loop i in 0..1999 {} }"))
        self.assertEqual(refused("when { loop i in 0..2000 {} }"), ("Unbounded", "items"))
        self.assertEqual(refused("when { loop i in 0..18446744073709551615 {} }"), ("Unbounded", "items"))

    def test_what_is_counted(self):
        self.count("", "wire a;", 1)
        self.count("", "in a, b; reg c;", 3)
        self.count("", "given 0 {} else {}", 1)
        self.count("", "given 1 { wire a; wire b; }", 3)
        self.count("", "each i in 0..3 { wire a; }", 7)
        self.count("", "each i in 0..0 { wire a; }", 1)
        self.count("", "wire a; a = 1;", 2)
        self.count("", "use u = cell(1)();", 7)
        self.count("", "use u = v()(); use w = v()();", 6, others="unit v() wire a; wire b; end")
        self.count("", "when {} tick {}", 2)

    def test_statements_are_counted(self):
        self.count("", "var v; when { v = 1; v = 0; }", 4)
        self.count("", "reg r; tick { r <- 1; if r { r <- 0; } else { r <- 1; } }", 6)
        self.count("", "var v; when { case v { 0: { v = 1; } 1: { v = 0; } else { v = 1; } } }", 6)
        self.count("", "var v; when { loop i in 0..3 { v = 1; v = 0; } }", 11)
        self.count("", "var v; when { loop i in 0..2 { loop j in 0..3 { v = 1; } } }", 16)
        self.count("", "var v; when { loop i in 0..0 { v = 1; } }", 2)
        self.count("", "func f(a) { a = 1; loop i in 0..2 { a = 0; } give a; }", 7)
        self.count("func f(a) { give a; } wire w; ", "", 3)

    def test_things_are_counted_before_they_are_elaborated(self):
        spent = "each i in 0..1999 {} "
        for text in ("q = 1;", "wire a[0];", "use u = q()();", "each j in q..1 {}", "given q {}", "func f(a) {}", "when { give 1; }"):
            self.assertEqual(refused(spent + text), ("Unbounded", "items"), text)
        spent = "each i in 0..1998 {} "
        for text in ("when { q = 1; }", "when { give 1; }", "tick { if q {} }", "func f(a) { a <- q; give a; }", "each j in 0..1 { q = 1; }",
                     "when { loop j in 0..1 { q = 1; } }", "use u = cell(1)();", "given 1 { q = 1; }"):
            self.assertEqual(refused(spent + text), ("Unbounded", "items"), text)
        for text in ("when { loop j in q..1 {} }", "each j in q..1 {}", "given q {}", "use u = cell(q)();"):
            self.assertEqual(refused(spent + text), ("Unknown", "q"), text)
        self.assertEqual(refused(spent + "func f(a) {}"), ("Misused", "give"))
        self.assertEqual(refused(spent + "func f(a[0]) { give a; }"), ("Width", "a"))


if __name__ == "__main__":
    unittest.main()
