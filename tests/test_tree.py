import unittest

from clockwright.lexer import tokenize
from clockwright.parser import expression, parse_statement, parse_target
from clockwright.tree import calls, depth, reads, size, substitute, writes
from helpers import A, B, C, D, lit, ref

UNARY = ("not", "neg", "redand", "redor", "redxor", "lnot")
BINARY = ("and", "or", "xor", "add", "sub", "mul", "shl", "shr", "lt", "le", "eq", "ne", "same", "land", "lor")


def statement(text):
    return parse_statement(tokenize(text), 0, end=len(text))[0]


def target(text):
    return parse_target(tokenize(text), 0, end=len(text))[0]


class SizeAndDepthTest(unittest.TestCase):
    def check(self, tree, many, deep):
        self.assertEqual((size(tree), depth(tree)), (many, deep), tree)

    def test_leaves(self):
        self.check(("lit", "01x"), 1, 1)
        self.check(A, 1, 1)

    def test_operators(self):
        for head in UNARY:
            self.check((head, A), 2, 2)
            self.check((head, ("add", A, B)), 4, 3)
        for head in BINARY:
            self.check((head, A, B), 3, 2)
            self.check((head, A, ("not", B)), 4, 3)
            self.check((head, ("not", A), B), 4, 3)
        self.check(("mux", A, B, C), 4, 2)
        self.check(("mux", A, B, ("not", C)), 5, 3)
        self.check(("mux", ("not", A), B, C), 5, 3)

    def test_selections_of_texts(self):
        self.check(expression("a[b]"), 2, 2)
        self.check(expression("a[b + 1]"), 4, 3)
        self.check(expression("a[3:b + 1]"), 5, 3)
        self.check(expression("a[b + 1:0]"), 5, 3)

    def test_selections_of_flat_designs(self):
        self.check(("part", "a", 3, 0), 1, 1)
        self.check(("rep", 4, A), 2, 2)
        self.check(("rep", 4, ("not", ("part", "a", 1, 0))), 3, 3)

    def test_lists(self):
        self.check(expression("{a}"), 2, 2)
        self.check(expression("{a, b + c, d}"), 6, 3)
        self.check(expression("{n: a}"), 3, 2)
        self.check(expression("{n + 1: a}"), 5, 3)
        self.check(expression("f(a)"), 2, 2)
        self.check(expression("f(a, g(b), c)"), 5, 3)

    def test_targets(self):
        self.check(target("{a, b[i], {c}}"), 6, 3)
        self.check(target("a[i + 1:0]"), 5, 3)

    def test_assignments(self):
        self.check(statement("a = b;"), 3, 2)
        self.check(statement("a <- b + c;"), 5, 3)
        self.check(statement("a[i + 1] = b;"), 6, 4)
        self.check(statement("give a + b;"), 4, 3)

    def test_blocks(self):
        self.check(statement("if a {}"), 2, 2)
        self.check(statement("if a { b = c; } else { d = c; give a; }"), 10, 3)
        self.check(statement("if a {} else { b = c + d; }"), 7, 4)
        self.check(statement("if a + b {}"), 4, 3)
        self.check(statement("loop i in 0..n {}"), 3, 2)
        self.check(statement("loop i in 0..n - 1 { a = b; c = d; }"), 11, 3)

    def test_cases(self):
        self.check(statement("case a { 1: {} 2, 3: {} }"), 2, 2)
        self.check(statement("case a { 1: { b = c; } 2: { if d {} } else { give ~a; } }"), 10, 4)


class ReadsTest(unittest.TestCase):
    def test_expressions(self):
        self.assertEqual(reads(("lit", "0")), [])
        self.assertEqual(reads(A), ["a"])
        self.assertEqual(reads(expression("b + a * b - c")), ["b", "a", "c"])
        self.assertEqual(reads(expression("a > b")), ["b", "a"])
        self.assertEqual(reads(expression("v[i] + w[h:l]")), ["v", "i", "w", "h", "l"])
        self.assertEqual(reads(expression("i[v[i]]")), ["i", "v"])
        self.assertEqual(reads(expression("{n: a} ? {b, c} : ~d")), ["n", "a", "b", "c", "d"])

    def test_called_functions_are_not_read(self):
        self.assertEqual(reads(expression("f(g(a), f)")), ["a", "f"])

    def test_flat_trees(self):
        self.assertEqual(reads(("add", ("part", "a", 3, 0), ("rep", 2, B))), ["a", "b"])

    def test_targets_are_not_read_but_their_indexes_are(self):
        self.assertEqual(reads(statement("a = b;")), ["b"])
        self.assertEqual(reads(statement("a[i] <- b;")), ["i", "b"])
        self.assertEqual(reads(statement("a[h:l] = b;")), ["h", "l", "b"])
        self.assertEqual(reads(statement("{a, {b[i], c[j]}} = i + k;")), ["i", "j", "k"])
        self.assertEqual(reads(statement("a[b[i]] = c;")), ["b", "i", "c"])
        self.assertEqual(reads(("set", ("part", "a", 3, 0), B)), ["b"])

    def test_a_name_that_is_assigned_to_may_be_read_too(self):
        self.assertEqual(reads(statement("a = a + b;")), ["a", "b"])
        self.assertEqual(reads(statement("a[a] = 0;")), ["a"])

    def test_statements(self):
        self.assertEqual(reads(statement("if c { x = b; } else { y = a; }")), ["c", "b", "a"])
        self.assertEqual(reads(statement("case c { 1: { x = b; } 2: { x = a; } else { give d; } }")), ["c", "b", "a", "d"])
        self.assertEqual(reads(statement("give a + b;")), ["a", "b"])

    def test_loops(self):
        self.assertEqual(reads(statement("loop i in l..h { x = a; }")), ["l", "h", "a"])
        self.assertEqual(reads(statement("loop i in l..h { x[i] = a; }")), ["l", "h", "i", "a"])

    def test_the_example_of_the_document(self):
        tree = ("if", C, (("set", ("pick", "v", ref("i")), ("add", A, C)),), ())
        self.assertEqual(reads(tree), ["c", "i", "a"])
        self.assertEqual(writes(tree), ["v"])


class WritesTest(unittest.TestCase):
    def test_targets(self):
        self.assertEqual(writes(A), ["a"])
        self.assertEqual(writes(target("a[i]")), ["a"])
        self.assertEqual(writes(target("a[h:l]")), ["a"])
        self.assertEqual(writes(target("{b, {a[i], b[2]}, c}")), ["b", "a", "c"])

    def test_assignments(self):
        self.assertEqual(writes(statement("a = b;")), ["a"])
        self.assertEqual(writes(statement("a[i] <- b;")), ["a"])
        self.assertEqual(writes(statement("{b, a, b[1]} = c;")), ["b", "a"])
        self.assertEqual(writes(statement("give a;")), [])

    def test_statements(self):
        self.assertEqual(writes(statement("if a {}")), [])
        self.assertEqual(writes(statement("if a { c = 0; } else { b <- 0; c = 1; }")), ["c", "b"])
        self.assertEqual(writes(statement("case a { 1: { d = 0; } 2: { if b { c = 0; } } else { d = 1; a = 0; } }")), ["d", "c", "a"])
        self.assertEqual(writes(statement("if a { case b { 1: { c = 0; } else { if d { e <- 0; } loop i in 0..1 { f = 0; } } } }")), ["c", "e", "f"])
        self.assertEqual(writes(statement("loop i in l..h { x[i] = a; loop j in 0..2 { y = i; } }")), ["x", "y"])


class CallsTest(unittest.TestCase):
    def test_expressions(self):
        self.assertEqual(calls(A), [])
        self.assertEqual(calls(expression("g(a) + f(g(b), h(c))")), ["g", "f", "h"])
        self.assertEqual(calls(expression("f(g(f(a)))")), ["f", "g"])
        self.assertEqual(calls(expression("a[f(b)] ? {g(c): d} : {h(a)}")), ["f", "g", "h"])

    def test_statements(self):
        self.assertEqual(calls(statement("a[g(i)] = f(b);")), ["g", "f"])
        self.assertEqual(calls(statement("{a, b[f(i)]} <- g(b);")), ["f", "g"])
        self.assertEqual(calls(statement("if f(a) { b = g(c); } else { b = f(c); c = h(c); }")), ["f", "g", "h"])
        self.assertEqual(calls(statement("case f(a) { 1: { b = g(c); } else { give h(c); } }")), ["f", "g", "h"])
        self.assertEqual(calls(statement("loop i in f(1)..g(2) { a = h(i); }")), ["f", "g", "h"])


class SubstituteTest(unittest.TestCase):
    TABLE = {"a": lit(5), "i": ("add", B, lit(1))}

    def check(self, text, expected):
        self.assertEqual(substitute(expression(text), self.TABLE), expression(expected), text)

    def check_statement(self, text, expected):
        self.assertEqual(substitute(statement(text), self.TABLE), statement(expected), text)

    def test_whole_expressions(self):
        self.check("a", "5")
        self.check("b", "b")
        self.check("0", "0")
        self.check("a + b * i", "5 + b * (b + 1)")
        self.check("~a ? -i : !c", "~5 ? -(b + 1) : !c")
        self.check("{a, {b, i}}", "{5, {b, b + 1}}")
        self.check("{a: i}", "{5: b + 1}")
        self.check("f(a, c)", "f(5, c)")

    def test_names_that_are_no_expressions(self):
        self.check("a[a]", "a[5]")
        self.check("a[i:a]", "a[b + 1:5]")
        self.check("i[b]", "i[b]")
        self.check("a(a)", "a(5)")

    def test_what_is_put_in_is_not_replaced_again(self):
        self.assertEqual(substitute(("add", A, B), {"a": B, "b": A}), ("add", B, A))

    def test_names_that_are_assigned_to(self):
        self.check_statement("a = a;", "a = 5;")
        self.check_statement("a[a] <- a;", "a[5] <- 5;")
        self.check_statement("a[i:a] = 0;", "a[b + 1:5] = 0;")
        self.check_statement("{a, {i[i], b}} = a;", "{a, {i[b + 1], b}} = 5;")

    def test_statements(self):
        self.check_statement("if a { b = a; } else { give i; }", "if 5 { b = 5; } else { give b + 1; }")
        self.check_statement("case i { 1, 2: { b = a; } else { a <- a; } }", "case b + 1 { 1, 2: { b = 5; } else { a <- 5; } }")

    def test_loops(self):
        self.check_statement("loop i in i..a { b = i + a; }", "loop i in b + 1..5 { b = i + 5; }")
        self.check_statement("loop j in i..a { b = i + j; }", "loop j in b + 1..5 { b = (b + 1) + j; }")
        self.check_statement("loop i in 0..2 { loop j in i..a { x = i; } y = i; }", "loop i in 0..2 { loop j in i..5 { x = i; } y = i; }")
        self.check_statement("if i { loop i in 0..2 { b = i; } b = i; }", "if b + 1 { loop i in 0..2 { b = i; } b = b + 1; }")

    def test_flat_trees(self):
        tree = ("cat", (("part", "a", 3, 0), ("rep", 2, A)))
        self.assertEqual(substitute(tree, self.TABLE), ("cat", (("part", "a", 3, 0), ("rep", 2, lit(5)))))
        self.assertEqual(substitute(("set", ("part", "a", 3, 0), A), self.TABLE), ("set", ("part", "a", 3, 0), lit(5)))

    def test_the_table_does_not_change(self):
        table = {"i": A}
        substitute(statement("loop i in i..4 { x = i; }"), table)
        self.assertEqual(table, {"i": A})

    def test_an_empty_table(self):
        tree = statement("loop i in 0..a { if b { {c, d[i]} = f(a[3:0]); } }")
        self.assertEqual(substitute(tree, {}), tree)

    def test_trees_of_the_greatest_depth(self):
        text = "if a { " * 19 + "a[" + " + ".join("a" * 30) + "] = " + "~" * 19 + "a;" + "}" * 19
        tree = statement(text)
        self.assertEqual(depth(tree), 19 + 1 + 1 + 30)
        self.assertEqual(size(tree), 19 * 2 + 1 + 1 + 59 + 20)
        self.assertEqual(reads(tree), ["a"])
        self.assertEqual(substitute(tree, {"a": D}), statement(text.replace("a", "d").replace("d[", "a[")))


if __name__ == "__main__":
    unittest.main()
