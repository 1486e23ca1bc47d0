import unittest

from clockwright.items import declared_names, parse, unit_named
from helpers import A, B, C, failure, lit, ref

WIDTH, RESET = ("lit", "1"), ("lit", "0")


def items(text):
    return parse(f"unit u() {text} end")[0][3]


def refused(text):
    return failure(parse, text)


class UnitsTest(unittest.TestCase):
    def test_units(self):
        self.assertEqual(parse("unit u() end"), (("unit", "u", (), ()),))
        self.assertEqual(parse("unit u(n) end unit v(n, m, k) end"), (
            ("unit", "u", ("n",), ()), ("unit", "v", ("n", "m", "k"), ()),
        ))

    def test_units_of_the_same_name_and_equal_parameters_are_parsed(self):
        self.assertEqual(len(parse("unit u(n, n) end unit u() end")), 2)

    def test_errors(self):
        for text, at in (("", 0), ("  # nothing\n", 12), ("u", 0), ("unit", 4), ("unit 1", 5), ("unit u", 6), ("unit u end", 7),
                         ("unit u(", 7), ("unit u(1) end", 7), ("unit u(n,) end", 9), ("unit u(n m) end", 9),
                         ("unit u(n", 8), ("unit u() ", 9), ("unit u() end end", 13), ("unit u() end in a;", 13),
                         ("unit u() end ;", 13), ("unit u() end unit", 17), ("unit end() end", 5), ("unit u() unit", 9),
                         ("unit u(,) end", 7), ("unit u() end; ", 12)):
            self.assertEqual(refused(text), ("Malformed", at), text)

    def test_the_number_of_units(self):
        text = "unit u() end " * 40
        self.assertEqual(len(parse(text)), 40)
        self.assertEqual(refused(text + "unit u() end"), ("Unbounded", "units"))
        self.assertEqual(refused(text + "unit"), ("Unbounded", "units"))
        self.assertEqual(refused(text + "in"), ("Malformed", 40 * 13))
        self.assertEqual(refused("unit u() in end " + text), ("Malformed", 12))

    def test_the_lexer_comes_first(self):
        self.assertEqual(refused("end $"), ("Malformed", 4))
        self.assertEqual(refused(" " * 20001), ("Unbounded", "text"))
        self.assertEqual(refused(" " * 20000), ("Malformed", 20000))

    def test_the_examples_of_the_document(self):
        text = "unit c() in d; out q; reg s[2] = 3; tick { s <- s + d; } q = s[1]; end"
        self.assertEqual(parse(text), (("unit", "c", (), (
            ("in", "d", ("lit", "1")), ("out", "q", ("lit", "1")), ("reg", "s", ("lit", "10"), ("lit", "11")),
            ("tick", (("next", ("ref", "s"), ("add", ("ref", "s"), ("ref", "d"))),)),
            ("drive", ("ref", "q"), ("pick", "s", ("lit", "1"))),
        )),))
        self.assertEqual(refused("unit c() in d end"), ("Malformed", 14))


class DeclarationsTest(unittest.TestCase):
    def test_kinds(self):
        for kind in ("in", "out", "wire", "var"):
            self.assertEqual(items(f"{kind} a;"), ((kind, "a", WIDTH),))
            self.assertEqual(items(f"{kind} a[8];"), ((kind, "a", lit(8)),))
            self.assertEqual(items(f"{kind} a[n + 1], b, c[2];"), (
                (kind, "a", ("add", ref("n"), lit(1))), (kind, "b", WIDTH), (kind, "c", lit(2)),
            ))

    def test_registers(self):
        self.assertEqual(items("reg a;"), (("reg", "a", WIDTH, RESET),))
        self.assertEqual(items("reg a[4] = 4'b0101;"), (("reg", "a", lit(4), ("lit", "0101")),))
        self.assertEqual(items("reg a = n, b[2], c, d[3] = 1 + 2;"), (
            ("reg", "a", WIDTH, ref("n")), ("reg", "b", lit(2), RESET), ("reg", "c", WIDTH, RESET),
            ("reg", "d", lit(3), ("add", lit(1), lit(2))),
        ))

    def test_errors(self):
        for text, at in (("in ;", 12), ("in a", 14), ("in a b;", 14), ("in a,;", 14), ("in a[];", 14), ("in a[1;", 15),
                         ("in a = 1;", 14), ("wire a[1:0];", 17), ("reg a = ;", 17), ("var a = 1;", 15), ("in 1;", 12),
                         ("reg a, b = 1 c;", 22), ("in in;", 12), ("reg a[2] == 1;", 18)):
            self.assertEqual(refused("unit u() " + text + " end"), ("Malformed", at), text)


class ItemsTest(unittest.TestCase):
    def test_drives(self):
        self.assertEqual(items("a = b;"), (("drive", A, B),))
        self.assertEqual(items("a[1] = b; {a, b[3:2]} = c;"), (
            ("drive", ("pick", "a", lit(1)), B),
            ("drive", ("cat", (A, ("part", "b", lit(3), lit(2)))), C),
        ))

    def test_processes(self):
        self.assertEqual(items("when {} tick {}"), (("when", ()), ("tick", ())))
        self.assertEqual(items("when { a = b; } tick { a <- b; give c; }"), (
            ("when", (("set", A, B),)), ("tick", (("next", A, B), ("give", C))),
        ))

    def test_instances(self):
        self.assertEqual(items("use i = m()();"), (("use", "i", "m", (), ()),))
        self.assertEqual(items("use i = m(1, n + 2)(p: a, q: {b, c});"), (
            ("use", "i", "m", (lit(1), ("add", ref("n"), lit(2))), (("p", A), ("q", ("cat", (B, C))))),
        ))
        self.assertEqual(items("use i = m(3)(); use i = m()(p: a);"), (
            ("use", "i", "m", (lit(3),), ()), ("use", "i", "m", (), (("p", A),)),
        ))

    def test_repeated_items(self):
        self.assertEqual(items("each i in 0..4 {}"), (("each", "i", lit(0), lit(4), ()),))
        self.assertEqual(items("each i in a + 1..b { in a, b; each j in 0..i { a = b; } }"), (
            ("each", "i", ("add", A, lit(1)), B, (
                ("in", "a", WIDTH), ("in", "b", WIDTH), ("each", "j", lit(0), ref("i"), (("drive", A, B),)),
            )),
        ))

    def test_conditional_items(self):
        self.assertEqual(items("given a {}"), (("given", A, (), ()),))
        self.assertEqual(items("given a > b { a = b; } else { in a; }"), (
            ("given", ("lt", B, A), (("drive", A, B),), (("in", "a", WIDTH),)),
        ))
        self.assertEqual(items("given a { given b {} } else {}"), (("given", A, (("given", B, (), ()),), ()),))

    def test_functions(self):
        self.assertEqual(items("func f(a) { give a; }"), (("func", "f", (("a", WIDTH),), WIDTH, (("give", A),)),))
        self.assertEqual(items("func f(a[4], b, c[n])[n] {}"), (
            ("func", "f", (("a", lit(4)), ("b", WIDTH), ("c", ref("n"))), ref("n"), ()),
        ))

    def test_errors(self):
        for text, at in (("a", 10), ("a b", 11), ("a <- b;", 11), ("a = b", 14), ("1 = a;", 9), ("when a = b;", 14),
                         ("tick {", 15), ("use = m()();", 13), ("use i m()();", 15), ("use i = ()();", 17),
                         ("use i = m();", 20), ("use i = m()()", 22), ("use i = m(1,)();", 21), ("use i = m()(p);", 22),
                         ("use i = m()(p: );", 24), ("use i = m()(p: a,);", 26), ("use i = m()(p = a);", 23),
                         ("use i = m;", 18), ("use i = m(;", 19), ("use i = m()(p: a", 25), ("use i = m()(1: a);", 21),
                         ("each i in 0..4", 23), ("each i in 0..4 a = b;", 24), ("each 1 in 0..4 {}", 14),
                         ("each i in 0..4 {", 25), ("each i in 0..4 { end", 26), ("given {}", 16), ("given a {} else", 24),
                         ("given a {} else given b {}", 25), ("given a;", 16), ("else {}", 9), ("func f() {}", 16),
                         ("func f(a) give a;", 19), ("func f(a)[] {}", 19), ("func f(a,) {}", 18), ("func (a) {}", 14),
                         ("func f {}", 16), ("func f(a)[2][3] {}", 21), ("func f(a = 1) {}", 18), ("if a {}", 9),
                         ("loop i in 0..1 {}", 9), ("give a;", 9), ("; end", 9), ("each i in 0..4 { if a {} }", 26),
                         ("unit v() end", 9)):
            self.assertEqual(refused("unit u() " + text), ("Malformed", at), text)


def nested(before, after, many):
    return "unit u() " + before * many + "in a;" + after * many + " end"


class LevelsTest(unittest.TestCase):
    KINDS = {
        "each": ("each i in 0..1 { ", " }"),
        "given": ("given 1 { ", " }"),
        "else": ("given 1 {} else { ", " }"),
    }

    def test_levels_10_and_11(self):
        for name, (before, after) in self.KINDS.items():
            self.assertIsNone(refused(nested(before, after, 9)), name)
            self.assertEqual(refused(nested(before, after, 10)), ("Unbounded", "depth"), name)

    def test_the_item_would_start_before_its_first_token_is_read(self):
        for before, _ in self.KINDS.values():
            self.assertEqual(refused("unit u() " + before * 10 + "in +"), ("Unbounded", "depth"))
            self.assertEqual(refused("unit u() " + before * 9 + "+"), ("Malformed", 9 + 9 * len(before)))

    def test_empty_braces_hold_no_item(self):
        for before, after in self.KINDS.values():
            self.assertIsNone(refused("unit u() " + before * 10 + after * 10 + " end"))

    def test_expressions_and_blocks_in_items_start_at_level_1(self):
        deep = "(" * 19 + "a" + ")" * 19
        inner = "if a { " * 19 + "a = b;" + " }" * 19
        target = "{" * 19 + "a" + "}" * 19
        self.assertIsNone(refused("unit u() " + "given 1 { " * 9 + f"{target} = b;" + " }" * 9 + " end"))
        self.assertEqual(refused(f"unit u() {{{target}}} = b; end"), ("Unbounded", "depth"))
        for text in (f"in a[{deep}];", f"reg a[{deep}] = {deep};", f"a = {deep};", f"use i = m({deep})(p: {deep});",
                     f"each i in {deep}..{deep} {{}}", f"given {deep} {{}}", f"func f(a[{deep}])[{deep}] {{}}",
                     f"when {{ {inner} }}", f"tick {{ {inner} }}", f"func f(a) {{ {inner} }}"):
            self.assertIsNone(refused("unit u() " + "given 1 { " * 9 + text + " }" * 9 + " end"), text)
            for part in (deep, inner):
                if part in text:
                    deeper = text.replace(part, f"({part})" if part == deep else f"if a {{ {part} }}", 1)
                    self.assertEqual(refused(f"unit u() {deeper} end"), ("Unbounded", "depth"), text)

    def test_depths_30_and_31(self):
        deep = " + ".join("a" * 30)
        self.assertIsNone(refused(f"unit u() a = {deep}; end"))
        self.assertEqual(refused(f"unit u() a = {deep} + a; end"), ("Unbounded", "depth"))
        self.assertEqual(refused(f"unit u() in b[{deep} + a; end"), ("Unbounded", "depth"))

    def test_errors_come_in_the_order_of_the_text(self):
        deep = nested("given 1 { ", " }", 10)
        self.assertEqual(refused(deep + " +"), ("Unbounded", "depth"))
        self.assertEqual(refused("unit u() + end " + deep), ("Malformed", 9))


class HelpersTest(unittest.TestCase):
    UNITS = parse("unit a() end unit b(n) in x; end unit b() end")

    def test_unit_named(self):
        self.assertEqual(unit_named(self.UNITS, "a"), self.UNITS[0])
        self.assertEqual(unit_named(self.UNITS, "b"), self.UNITS[1])

    def test_unknown_units(self):
        self.assertEqual(failure(unit_named, self.UNITS, "c"), ("Unknown", "c"))
        self.assertEqual(failure(unit_named, self.UNITS, "x"), ("Unknown", "x"))
        self.assertEqual(failure(unit_named, (), "a"), ("Unknown", "a"))

    def test_declared_names(self):
        unit = parse("""unit u(n) in a, b; out c; wire a; reg r = 1; var v; use i = m(j)(p: q);
            each k in 0..1 { wire x; } given 1 { wire y; } else { wire z; } a = w; when { v = w; } tick { r <- w; }
            func f(s) { give t; } end""")[0]
        self.assertEqual(declared_names(unit), ["a", "b", "c", "a", "r", "v", "i", "f"])
        self.assertEqual(declared_names(self.UNITS[0]), [])


if __name__ == "__main__":
    unittest.main()
