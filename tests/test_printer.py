import unittest

from clockwright.items import parse
from clockwright.lexer import tokenize
from clockwright.parser import expression, parse_statement, parse_target
from clockwright.printer import show_expression, show_statement, show_target, show_units
from helpers import A, B, C, D, failure, lit
from trees import BINARY, UNARY, Drawn


def whole(parse_one, text):
    tokens = tokenize(text)
    tree, position = parse_one(tokens, 0, end=len(text))
    assert position == len(tokens), text
    return tree


class ExpressionsTest(unittest.TestCase):
    def check(self, tree):
        text = show_expression(tree)
        self.assertNotIn("#", text)
        self.assertEqual(expression(text), tree, text)

    def check_within_limits(self, tree):
        """The same, unless the text needs too many levels; which parentheses it has is not specified."""
        if failure(expression, show_expression(tree)) != ("Unbounded", "depth"):
            self.check(tree)

    def test_leaves(self):
        for tree in (A, ("lit", "0"), ("lit", "1"), ("lit", "00"), ("lit", "10"), ("lit", "010"), ("lit", "x"),
                     ("lit", "1z"), ("lit", "0x"), ("lit", "1" * 64), ("lit", "0" * 64), ("lit", "z" * 64)):
            self.check(tree)

    def test_each_form(self):
        for tree in (("pick", "a", B), ("part", "a", B, C), ("cat", (A,)), ("cat", (A, B, C)), ("rep", lit(3), A),
                     ("mux", A, B, C), ("call", "f", (A,)), ("call", "f", (A, B, C))):
            self.check(tree)

    def test_the_example_of_the_document(self):
        self.check(("neg", A))

    def test_each_pair_of_operators(self):
        operands = [A] + [(head, A) for head in UNARY] + [(head, A, B) for head in BINARY]
        operands += [("mux", A, B, C), ("cat", (A, B)), ("rep", lit(2), A), ("pick", "a", B), ("part", "a", B, C),
                     ("call", "f", (A,)), ("lit", "1"), ("lit", "0x")]
        for one in operands:
            for head in UNARY:
                self.check((head, one))
            for tree in (("pick", "v", one), ("cat", (one,)), ("call", "g", (one,))):
                self.check(tree)
            for two in operands:
                for head in BINARY:
                    self.check((head, one, two))
                for tree in (("mux", one, two, C), ("mux", C, one, two), ("part", "v", one, two), ("rep", one, two)):
                    self.check(tree)

    def test_drawn_trees(self):
        for seed in range(3000):
            self.check(Drawn(seed).expression(6))

    def test_long_chains(self):
        for sign in ("*", "-", "<<", "<", ">", "<=", ">=", "==", "&", "^", "|", "&&", "||"):
            self.check_within_limits(expression(f" {sign} ".join("abcdefghij" * 3)))
        self.check_within_limits(expression(" > ".join("ab" * 7) + " <= " + " >= ".join("ab" * 7)))
        self.check_within_limits(expression("a > b < c >= d <= a > (b < c > d)"))

    def test_texts_of_the_greatest_level(self):
        for before, after in (("(0 - ", ")"), ("~", ""), ("- ", ""), ("& ", ""), ("a[", "]"), ("f(", ")"), ("{2: ", "}"),
                              ("{", "}"), ("0 ? 0 : ", ""), ("0 ? ", " : 0"), ("(b > ", ")"), ("(b < ", ")"), ("a[0:", "]")):
            self.check_within_limits(expression(before * 19 + "a" + after * 19))

    def test_both_operands_of_a_relation_are_relations(self):
        deep = ("lt", A, B)
        for _ in range(18):
            deep = ("lt", ("le", A, B), deep)
            self.check_within_limits(deep)

    def test_equal_trees_have_equal_texts(self):
        self.assertEqual(show_expression(expression("a + (b*c)")), show_expression(expression("( a+b * c )")))
        self.assertEqual(show_expression(expression("a > b")), show_expression(expression("b < a")))
        self.assertEqual(show_expression(expression("3")), show_expression(expression("2'd3")))


class TargetsTest(unittest.TestCase):
    def check(self, tree):
        self.assertEqual(whole(parse_target, show_target(tree)), tree)

    def test_each_form(self):
        for tree in (A, ("pick", "a", B), ("pick", "a", ("mux", A, B, C)), ("part", "a", lit(3), B), ("cat", (A,)),
                     ("cat", (A, ("cat", (B, ("pick", "c", D))), ("part", "d", B, C)))):
            self.check(tree)

    def test_drawn_trees(self):
        for seed in range(500):
            self.check(Drawn(seed).target(5))


class StatementsTest(unittest.TestCase):
    def check(self, tree):
        texts = [show_statement(tree)] + [show_statement(tree, indent=indent) for indent in (0, 1, 5)]
        self.assertEqual(texts[0], texts[1])
        for text in texts:
            self.assertTrue(text.endswith("\n"))
            self.assertNotIn("#", text)
            self.assertEqual(whole(parse_statement, text), tree, text)

    def test_each_form(self):
        block = (("set", A, B), ("next", A, B))
        for tree in (("set", A, B), ("next", ("pick", "a", B), C), ("give", ("add", A, B)),
                     ("if", A, (), ()), ("if", A, block, ()), ("if", A, (), block), ("if", A, block, block),
                     ("if", A, (), (("if", B, block, ()),)), ("if", A, (), (("if", B, (), block),)),
                     ("if", A, (("if", B, (), ()),), block), ("if", A, (), (("if", B, (), ()), ("set", A, B))),
                     ("case", A, ((("1",), ()),), ()), ("case", A, (), block), ("case", A, ((("1",), ()),), block),
                     ("case", A, ((("0", "1x", "010"), block), (("11",), ())), ()),
                     ("loop", "i", A, B, ()), ("loop", "i", lit(0), ("add", A, B), block),
                     ("if", ("cat", (A, B)), (), ()), ("case", ("cat", (A,)), ((("z",), ()),), ())):
            self.check(tree)

    def test_drawn_trees(self):
        for seed in range(800):
            self.check(Drawn(seed).statement(5))

    def test_the_greatest_level(self):
        for before, after in (("if a { ", "}"), ("if a {} else { ", "}"), ("if a {} else ", ""), ("case a { 1: { ", "}}"),
                              ("loop i in 0..1 { ", "}")):
            inner = "if b {}" if after == "" else "a = b;"
            self.check(whole(parse_statement, before * 19 + inner + after * 19))


class UnitsTest(unittest.TestCase):
    def check(self, units):
        text = show_units(units)
        self.assertNotIn("#", text)
        self.assertEqual(parse(text), units, text)

    def test_each_form(self):
        self.check(parse("""
            unit empty() end
            unit all(n, m)
              in a, b[2]; out c; wire d[n + 1]; var e; reg f, g[3], h = 1, i[4] = n ? 1 : 2, j[1] = 0;
              c = a; {d[1], d[0]} = b;
              when {} when { e = a; }
              tick {} tick { f <- a; if b { g <- 1; } }
              use k = empty()(); use l = all(n - 1, 2)(a: a, c: {d[0], d[2:1]});
              each o in 0..n { wire p; each q in o..m {} }
              given n {} given n { wire r; } else { wire s; } given m {} else { given n { wire t; } }
              func u(v) { give v; }
              func w(x[3], y)[n + 2] { if x { y = 1; } loop z in 0..3 { x[z] = y; } give {x, y}; }
            end
        """))

    def test_drawn_trees(self):
        for seed in range(400):
            self.check(Drawn(seed).units())

    def test_the_greatest_level(self):
        for before, after in (("each i in 0..1 { ", "}"), ("given 1 { ", "}"), ("given 1 {} else { ", "}")):
            self.check(parse("unit u() " + before * 9 + "in a;" + after * 9 + " end"))

    def test_forty_units(self):
        self.check(parse("unit u() in a; end " * 40))

    def test_equal_trees_have_equal_texts(self):
        one = parse("unit u() in a, b[1]; reg c = 0; end")
        two = parse("unit u()\nin a[1];in b;reg c[1]; # c\nend")
        self.assertEqual(one, two)
        self.assertEqual(show_units(one), show_units(two))


if __name__ == "__main__":
    unittest.main()
