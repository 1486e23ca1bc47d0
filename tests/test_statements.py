import unittest

from clockwright.lexer import tokenize
from clockwright.parser import parse_block, parse_statement
from helpers import A, B, C, D, failure, lit

SET_A = ("set", A, B)


def statement(text):
    tokens = tokenize(text)
    tree, position = parse_statement(tokens, 0, end=len(text))
    assert position == len(tokens), text
    return tree


def block(text):
    tokens = tokenize(text)
    tree, position = parse_block(tokens, 0, end=len(text))
    assert position == len(tokens), text
    return tree


class AssignmentTest(unittest.TestCase):
    def test_set_and_next(self):
        self.assertEqual(statement("a = b + 1;"), ("set", A, ("add", B, lit(1))))
        self.assertEqual(statement("a <- b;"), ("next", A, B))
        self.assertEqual(statement("a[b] = c;"), ("set", ("pick", "a", B), C))
        self.assertEqual(statement("a[3:1] <- c;"), ("next", ("part", "a", lit(3), lit(1)), C))
        self.assertEqual(statement("{a, b[1]} = c;"), ("set", ("cat", (A, ("pick", "b", lit(1)))), C))

    def test_give(self):
        self.assertEqual(statement("give a ? b : c;"), ("give", ("mux", A, B, C)))


class IfTest(unittest.TestCase):
    def test_without_else(self):
        self.assertEqual(statement("if a {}"), ("if", A, (), ()))
        self.assertEqual(statement("if a == b { a = b; }"), ("if", ("eq", A, B), (SET_A,), ()))

    def test_with_else(self):
        self.assertEqual(statement("if c { a = b; } else { b = a; }"), ("if", C, (SET_A,), (("set", B, A),)))
        self.assertEqual(statement("if c {} else {}"), ("if", C, (), ()))

    def test_else_if(self):
        inner = ("if", D, (), (SET_A,))
        self.assertEqual(statement("if c {} else if d {} else { a = b; }"), ("if", C, (), (inner,)))
        self.assertEqual(statement("if c {} else { if d {} else { a = b; } }"), ("if", C, (), (inner,)))

    def test_a_condition_in_braces(self):
        self.assertEqual(statement("if {a, b} {}"), ("if", ("cat", (A, B)), (), ()))


class CaseTest(unittest.TestCase):
    def test_arms(self):
        tree = statement("case a { 0: {} 1, 2'b1x: { a = b; } 4'd3, 6: {} }")
        arms = ((("0",), ()), (("1", "1x"), (SET_A,)), (("0011", "110"), ()))
        self.assertEqual(tree, ("case", A, arms, ()))

    def test_else(self):
        self.assertEqual(statement("case a { 1: {} else { a = b; } }"), ("case", A, ((("1",), ()),), (SET_A,)))
        self.assertEqual(statement("case a { else { a = b; } }"), ("case", A, (), (SET_A,)))
        self.assertEqual(statement("case a { else {} }"), ("case", A, (), ()))

    def test_errors(self):
        for text, at in (("case a { }", 9), ("case a {", 8), ("case a { a: {} }", 9), ("case a { 1 {} }", 11),
                         ("case a { 1: {} else {} 2: {} }", 23), ("case a { 1, : {} }", 12), ("case a { 1,", 11),
                         ("case a { 1: }", 12), ("case { 1: {} }", 11), ("case a 1: {}", 7), ("case a { (1): {} }", 9),
                         ("case a { else if a {} }", 14), ("case a { 1: {}", 14), ("case a { else {} else {} }", 17),
                         ("case a { 1 + 1: {} }", 11), ("case a { 1: a = b; }", 12)):
            self.assertEqual(failure(statement, text), ("Malformed", at), text)


class LoopTest(unittest.TestCase):
    def test_loop(self):
        self.assertEqual(statement("loop i in 0..4 {}"), ("loop", "i", lit(0), lit(4), ()))
        tree = ("loop", "i", ("add", A, lit(1)), ("mul", B, C), (SET_A, SET_A))
        self.assertEqual(statement("loop i in a + 1 .. b * c { a = b; a = b; }"), tree)

    def test_errors(self):
        for text, at in (("loop 1 in 0..4 {}", 5), ("loop i 0..4 {}", 7), ("loop i in ..4 {}", 10),
                         ("loop i in 0..{}", 14), ("loop i in 0 4 {}", 12), ("loop i in 0..4;", 14), ("loop i in 0:4 {}", 11),
                         ("loop in in 0..4 {}", 5), ("loop i in 0..4", 14)):
            self.assertEqual(failure(statement, text), ("Malformed", at), text)


class BlockTest(unittest.TestCase):
    def test_blocks(self):
        self.assertEqual(block("{}"), ())
        self.assertEqual(block("{ a = b; }"), (SET_A,))
        self.assertEqual(block("{ a = b; if c { a = b; } a = b; }"), (SET_A, ("if", C, (SET_A,), ()), SET_A))

    def test_errors(self):
        for text, at in (("", 0), ("{", 1), ("a = b;", 0), ("{ a = b }", 8), ("{ a = b; ", 9), ("{ a b; }", 4), ("{ ; }", 2),
                         ("{ 1 = a; }", 2), ("{ a == b; }", 4), ("{ end }", 2), ("{ a = ; }", 6), ("{ a; }", 3),
                         ("{ give; }", 6), ("{ give a }", 9), ("{ when {} }", 2), ("{ a <= b; }", 4), ("}", 0),
                         ("{ {} }", 3), ("{ a + b = c; }", 4)):
            self.assertEqual(failure(block, text), ("Malformed", at), text)

    def test_errors_of_if(self):
        for text, at in (("if {", 4), ("if a", 4), ("if a b = c;", 5), ("if a {} else", 12), ("if a {} else a = b;", 13),
                         ("if a {} else else {}", 13), ("if a {} else loop i in 0..1 {}", 13), ("else {}", 0)):
            self.assertEqual(failure(statement, text), ("Malformed", at), text)


class PositionsTest(unittest.TestCase):
    def test_what_follows_is_not_read(self):
        for text, tree, position in (("a = b; +", SET_A, 4), ("if a {} ; else {}", ("if", A, (), ()), 4),
                                     ("give a; }", ("give", A), 3)):
            self.assertEqual(parse_statement(tokenize(text), 0, end=len(text)), (tree, position))
        self.assertEqual(parse_block(tokenize("{} {"), 0, end=4), ((), 2))

    def test_positions_in_the_middle(self):
        text = "unit { a = b; } a = b;"
        tokens = tokenize(text)
        self.assertEqual(parse_block(tokens, 1, end=len(text)), ((SET_A,), 7))
        self.assertEqual(parse_statement(tokens, 2, end=len(text)), (SET_A, 6))
        self.assertEqual(parse_statement(tokens, 7, end=len(text)), (SET_A, 11))

    def test_the_end(self):
        tokens = tokenize("a = b")
        self.assertEqual(failure(parse_statement, tokens, 0, end=30), ("Malformed", 30))
        self.assertEqual(failure(parse_block, tokens, 3, end=30), ("Malformed", 30))
        self.assertEqual(tokens, tokenize("a = b"))


def nested(before, after, many):
    return before * many + "a = b;" + after * many


class LevelsTest(unittest.TestCase):
    KINDS = {
        "if": ("if a { ", " }"),
        "else": ("if a {} else { ", " }"),
        "case": ("case a { 1: { ", " } }"),
        "case else": ("case a { else { ", " } }"),
        "loop": ("loop i in 0..1 { ", " }"),
    }

    def test_levels_20_and_21(self):
        for name, (before, after) in self.KINDS.items():
            self.assertIsNone(failure(statement, nested(before, after, 19)), name)
            self.assertEqual(failure(statement, nested(before, after, 20)), ("Unbounded", "depth"), name)
            self.assertIsNone(failure(block, "{" + nested(before, after, 19) + "}"), name)
            self.assertEqual(failure(block, "{" + nested(before, after, 20) + "}"), ("Unbounded", "depth"), name)

    def test_else_if_counts_as_a_block(self):
        self.assertIsNone(failure(statement, "if a {} else " * 19 + "if a {}"))
        self.assertIsNone(failure(statement, "if a {} else " * 19 + "if a {} else {}"))
        self.assertEqual(failure(statement, "if a {} else " * 20 + "if a {}"), ("Unbounded", "depth"))
        self.assertEqual(failure(statement, "if a {} else " * 20 + "if"), ("Unbounded", "depth"))
        self.assertEqual(failure(statement, "if a {} else " * 19 + "if a {} else +"), ("Malformed", 19 * 13 + 13))
        self.assertEqual(failure(statement, "if a {} else " * 19 + "if a {} else { a = b; }"), ("Unbounded", "depth"))

    def test_empty_blocks_hold_no_statement(self):
        for before, after in self.KINDS.values():
            self.assertIsNone(failure(statement, before * 20 + after * 20))

    def test_the_statement_would_start_before_its_first_token_is_read(self):
        self.assertEqual(failure(statement, "if a { " * 20 + "a + + b"), ("Unbounded", "depth"))
        self.assertEqual(failure(statement, "if a { " * 19 + "+"), ("Malformed", 19 * 7))

    def test_expressions_in_statements_start_at_level_1(self):
        deep = "(" * 19 + "a" + ")" * 19
        for text in (f"a = {deep};", f"if {deep} {{}}", f"case {deep} {{ 1: {{}} }}", f"give {deep};",
                     f"loop i in {deep}..{deep} {{}}", f"{{ {{ a }} }} <- {deep};"):
            self.assertIsNone(failure(statement, text), text)
            self.assertIsNone(failure(statement, "if a { " * 19 + text + "}" * 19), text)
            self.assertEqual(failure(statement, text.replace(deep, f"({deep})")), ("Unbounded", "depth"), text)

    def test_targets_in_statements_start_at_level_1(self):
        deep = "{" * 19 + "a" + "}" * 19
        for sign in ("=", "<-"):
            self.assertIsNone(failure(statement, "if a { " * 19 + f"{deep} {sign} b;" + "}" * 19))
            self.assertEqual(failure(statement, f"{{{deep}}} {sign} b;"), ("Unbounded", "depth"))

    def test_depth_counts_expressions_alone(self):
        deep = " + ".join("a" * 30)
        text = "if a { " * 19 + f"a[{deep}] = {deep};" + "}" * 19
        self.assertIsNone(failure(statement, text))
        self.assertEqual(failure(statement, f"if {deep} + a {{}}"), ("Unbounded", "depth"))


if __name__ == "__main__":
    unittest.main()
