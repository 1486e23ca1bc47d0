import unittest

from clockwright.lexer import tokenize
from clockwright.parser import expression, parse_expression, parse_target
from helpers import A, B, C, D, failure, lit, ref

BINARY = (
    ("*",), ("+", "-"), ("<<", ">>"), ("<", "<=", ">", ">="), ("==", "!=", "==="),
    ("&",), ("^",), ("|",), ("&&",), ("||",),
)
HEADS = {
    "*": "mul", "+": "add", "-": "sub", "<<": "shl", ">>": "shr", "<": "lt", "<=": "le", "==": "eq",
    "!=": "ne", "===": "same", "&": "and", "^": "xor", "|": "or", "&&": "land", "||": "lor",
}
SIGNS = [sign for line in BINARY for sign in line]
RANKS = {sign: rank for rank, line in enumerate(BINARY) for sign in line}
UNARY = {"~": "not", "-": "neg", "&": "redand", "|": "redor", "^": "redxor", "!": "lnot"}


def built(sign, one, two):
    if sign in (">", ">="):
        return ("lt" if sign == ">" else "le", two, one)
    return (HEADS[sign], one, two)


def malformed(text):
    return failure(expression, text)


def read(text, position=0):
    return parse_expression(tokenize(text), position, end=len(text))


def target(text):
    tokens = tokenize(text)
    tree, position = parse_target(tokens, 0, end=len(text))
    assert position == len(tokens)
    return tree


class OperatorsTest(unittest.TestCase):
    def test_each_binary_operator(self):
        for sign in SIGNS:
            self.assertEqual(expression(f"a {sign} b"), built(sign, A, B))

    def test_each_rank_against_each_other_one(self):
        for one in SIGNS:
            for two in SIGNS:
                if RANKS[one] <= RANKS[two]:
                    tree = built(two, built(one, A, B), C)
                else:
                    tree = built(one, A, built(two, B, C))
                self.assertEqual(expression(f"a {one} b {two} c"), tree, (one, two))

    def test_all_ranks_at_once(self):
        text = "a || b && c | d ^ a & b == c < d << a + b * ~c"
        inner = ("add", A, ("mul", B, ("not", C)))
        inner = ("lt", C, ("shl", D, inner))
        inner = ("xor", D, ("and", A, ("eq", B, inner)))
        self.assertEqual(expression(text), ("lor", A, ("land", B, ("or", C, inner))))
        text = "~a * b + c << d < a == b & c ^ d | a && b || c"
        tree = ("not", A)
        for head, operand in (("mul", B), ("add", C), ("shl", D), ("lt", A), ("eq", B), ("and", C), ("xor", D),
                              ("or", A), ("land", B), ("lor", C)):
            tree = (head, tree, operand)
        self.assertEqual(expression(text), tree)

    def test_association_to_the_left(self):
        self.assertEqual(expression("a - b - c - d"), ("sub", ("sub", ("sub", A, B), C), D))
        self.assertEqual(expression("a < b < c"), ("lt", ("lt", A, B), C))
        self.assertEqual(expression("a > b > c"), ("lt", C, ("lt", B, A)))
        self.assertEqual(expression("a < b >= c"), ("le", C, ("lt", A, B)))

    def test_unary_operators(self):
        for sign, head in UNARY.items():
            self.assertEqual(expression(f"{sign}a"), (head, A))
            self.assertEqual(expression(f"{sign} a * b"), ("mul", (head, A), B))
            self.assertEqual(expression(f"a * {sign}b"), ("mul", A, (head, B)))
            self.assertEqual(expression(f"{sign}(a * b)"), (head, ("mul", A, B)))
            for inner, inner_head in UNARY.items():
                self.assertEqual(expression(f"{sign} {inner} a"), (head, (inner_head, A)))

    def test_unary_and_binary_signs(self):
        self.assertEqual(expression("a & & b"), ("and", A, ("redand", B)))
        self.assertEqual(expression("a - -b"), ("sub", A, ("neg", B)))
        self.assertEqual(expression("a--b"), ("sub", A, ("neg", B)))
        self.assertEqual(expression("a | |b"), ("or", A, ("redor", B)))
        self.assertEqual(expression("a ^^b"), ("xor", A, ("redxor", B)))
        self.assertEqual(malformed("a &&& "), ("Malformed", 6))
        self.assertEqual(malformed("a <-b"), ("Malformed", 2))

    def test_selections_bind_tighter_than_unary_operators(self):
        self.assertEqual(expression("~a[b]"), ("not", ("pick", "a", B)))
        self.assertEqual(expression("-f(a)"), ("neg", ("call", "f", (A,))))

    def test_choices(self):
        self.assertEqual(expression("a ? b : c"), ("mux", A, B, C))
        self.assertEqual(expression("a ? b : c ? d : a"), ("mux", A, B, ("mux", C, D, A)))
        self.assertEqual(expression("a ? b ? c : d : a"), ("mux", A, ("mux", B, C, D), A))
        self.assertEqual(expression("(a ? b : c) ? d : a"), ("mux", ("mux", A, B, C), D, A))
        self.assertEqual(expression("a || b ? c || d : a || b"), ("mux", ("lor", A, B), ("lor", C, D), ("lor", A, B)))
        self.assertEqual(expression("a + (b ? c : d)"), ("add", A, ("mux", B, C, D)))

    def test_the_examples_of_the_document(self):
        self.assertEqual(expression("a + b * c == 3"), ("eq", ("add", A, ("mul", B, C)), lit(3)))
        self.assertEqual(malformed("(a"), ("Malformed", 2))


class PrimaryTest(unittest.TestCase):
    def test_numbers(self):
        self.assertEqual(expression("0"), ("lit", "0"))
        self.assertEqual(expression("1"), ("lit", "1"))
        self.assertEqual(expression("6"), ("lit", "110"))
        self.assertEqual(expression(str(2 ** 64 - 1)), ("lit", "1" * 64))

    def test_vectors(self):
        self.assertEqual(expression("4'b1x"), ("lit", "001x"))
        self.assertEqual(expression("4'd3"), ("lit", "0011"))

    def test_names_and_selections(self):
        self.assertEqual(expression("a"), A)
        self.assertEqual(expression("a[b + 1]"), ("pick", "a", ("add", B, lit(1))))
        self.assertEqual(expression("a[b:c]"), ("part", "a", B, C))
        self.assertEqual(expression("a[b ? c : d:a]"), ("part", "a", ("mux", B, C, D), A))
        self.assertEqual(expression("a[b[c[0]]]"), ("pick", "a", ("pick", "b", ("pick", "c", lit(0)))))

    def test_calls(self):
        self.assertEqual(expression("f(a)"), ("call", "f", (A,)))
        self.assertEqual(expression("f(a, b ? c : d, g(1))"), ("call", "f", (A, ("mux", B, C, D), ("call", "g", (lit(1),)))))

    def test_parentheses(self):
        self.assertEqual(expression("((a))"), A)
        self.assertEqual(expression("(a + b) * c"), ("mul", ("add", A, B), C))
        self.assertEqual(expression("a - (b - c)"), ("sub", A, ("sub", B, C)))

    def test_braces(self):
        self.assertEqual(expression("{a}"), ("cat", (A,)))
        self.assertEqual(expression("{a, b + c, {d}}"), ("cat", (A, ("add", B, C), ("cat", (D,)))))
        self.assertEqual(expression("{4: a}"), ("rep", lit(4), A))
        self.assertEqual(expression("{a + 1: {b, c}}"), ("rep", ("add", A, lit(1)), ("cat", (B, C))))
        self.assertEqual(expression("{a ? b : c: d}"), ("rep", ("mux", A, B, C), D))
        self.assertEqual(expression("{a ? b : c}"), ("cat", (("mux", A, B, C),)))


class TargetsTest(unittest.TestCase):
    def test_forms(self):
        self.assertEqual(target("a"), A)
        self.assertEqual(target("a[b]"), ("pick", "a", B))
        self.assertEqual(target("a[b:c]"), ("part", "a", B, C))
        self.assertEqual(target("{a}"), ("cat", (A,)))
        self.assertEqual(target("{a, {b[1], c[1:0]}, d}"), (
            "cat", (A, ("cat", (("pick", "b", lit(1)), ("part", "c", lit(1), lit(0)))), D),
        ))

    def test_errors(self):
        for text, at in (("1", 0), ("(a)", 0), ("{}", 1), ("{a,}", 3), ("{a", 2), ("{a b}", 3), ("a[", 2), ("a[1", 3),
                         ("a[]", 2), ("a[1:]", 4), ("a[1:2:3]", 5), ("{a: b}", 2), ("", 0), ("if", 0), ("{a[1}", 4),
                         ("4'b1", 0), ("~a", 0)):
            self.assertEqual(failure(target, text), ("Malformed", at), text)

    def test_what_follows_is_not_read(self):
        for text in ("a + b", "a = b", "a(b)", "a;", "a {", "a 1"):
            tokens = tokenize(text)
            self.assertEqual(parse_target(tokens, 0, end=len(text)), (A, 1))


class PositionsTest(unittest.TestCase):
    def test_the_position_behind(self):
        self.assertEqual(read("a"), (A, 1))
        self.assertEqual(read("a ; b"), (A, 1))
        self.assertEqual(read("a + b c"), (("add", A, B), 3))
        self.assertEqual(read("f(a) (b)"), (("call", "f", (A,)), 4))
        self.assertEqual(read("(a) [b]"), (A, 3))
        self.assertEqual(read("a[b] [c]"), (("pick", "a", B), 4))
        self.assertEqual(read("1 (a)"), (lit(1), 1))
        self.assertEqual(read("a {b}"), (A, 1))

    def test_positions_in_the_middle(self):
        self.assertEqual(read("x = a + b;", 2), (("add", A, B), 5))
        tokens = tokenize("q { a[1], b } = c")
        self.assertEqual(parse_target(tokens, 1, end=17), (("cat", (("pick", "a", lit(1)), B)), 9))

    def test_errors_in_the_middle(self):
        tokens = tokenize("x = a + ; y")
        self.assertEqual(failure(parse_expression, tokens, 2, end=11), ("Malformed", 8))
        self.assertEqual(failure(parse_expression, tokens, 1, end=11), ("Malformed", 2))

    def test_the_end(self):
        tokens = tokenize("a + ")
        self.assertEqual(failure(parse_expression, tokens, 0, end=77), ("Malformed", 77))
        self.assertEqual(failure(parse_expression, tokens, 2, end=4), ("Malformed", 4))
        self.assertEqual(failure(parse_target, tokens, 2, end=5), ("Malformed", 5))
        self.assertEqual(failure(parse_expression, [], 0, end=0), ("Malformed", 0))

    def test_the_tokens_do_not_change(self):
        text = "a[1] + f(b, {2: c})"
        tokens = tokenize(text)
        parse_expression(tokens, 0, end=len(text))
        self.assertEqual(tokens, tokenize(text))


class ErrorsTest(unittest.TestCase):
    def test_the_first_token_that_does_not_fit(self):
        cases = {
            "": 0, "  ": 2, "+": 0, "a +": 3, "a + *": 4, "* a": 0, "a b": 2, "a 1": 2, "(a": 2, "(a b": 3, "()": 1,
            "a)": 1, "a]": 1, "a[": 2, "a[]": 2, "a[b": 3, "a[b:": 4, "a[b:]": 4, "a[b:c:d]": 5, "a[b,c]": 3,
            "f()": 2, "f(a": 3, "f(a,": 4, "f(a,)": 4, "f(a:b)": 3, "{}": 1, "{a": 2, "{a,": 3, "{a,}": 3, "{a:": 3,
            "{a:}": 3, "{a:b,c}": 4, "{a,b:c}": 4, "a ?": 3, "a ? b": 5, "a ? b :": 7, "a ? : b": 4, "a ? b c": 6,
            "if": 0, "a + end": 4, "1[0]": 1, "(a)[0]": 3, "a = b": 2, "a; ": 1, "~": 1, "~)": 1, "a ! b": 2,
            "a ~ b": 2, "a .. b": 2, "f(a)(b)": 4, "a[1][2]": 4, "a # b +": None, "a + # b": 7,
        }
        for text, at in cases.items():
            self.assertEqual(malformed(text), None if at is None else ("Malformed", at), text)

    def test_the_lexer_comes_first(self):
        self.assertEqual(malformed("+ + $"), ("Malformed", 4))
        self.assertEqual(malformed("a" + " " * 20000), ("Unbounded", "text"))

    def test_tokens_behind_the_expression(self):
        self.assertEqual(malformed("a + b  c"), ("Malformed", 7))
        self.assertEqual(malformed("a ? b : c : d"), ("Malformed", 10))


def nested(before, after, many):
    return before * many + "a" + after * many


class LevelsTest(unittest.TestCase):
    KINDS = {
        "parentheses": ("(", ")"),
        "brackets": ("a[", "]"),
        "high": ("a[", ":0]"),
        "low": ("a[0:", "]"),
        "cat": ("{", "}"),
        "later operand of cat": ("{0, ", "}"),
        "count": ("{", ": 0}"),
        "rep": ("{1: ", "}"),
        "argument": ("f(", ")"),
        "later argument": ("f(0, ", ")"),
        "unary": ("~", ""),
        "other unary": ("- ", ""),
        "second operand of a choice": ("0 ? ", " : 0"),
        "third operand of a choice": ("0 ? 0 : ", ""),
    }

    def test_levels_20_and_21(self):
        for name, (before, after) in self.KINDS.items():
            self.assertIsNone(malformed(nested(before, after, 19)), name)
            self.assertIsNone(failure(read, nested(before, after, 19)), name)
            self.assertEqual(malformed(nested(before, after, 20)), ("Unbounded", "depth"), name)
            self.assertEqual(failure(read, nested(before, after, 20)), ("Unbounded", "depth"), name)

    def test_mixed_levels(self):
        texts = [("(~", ")"), ("f({", "})"), ("a[0 ? ", ": 0]")]
        for before, after in texts:
            self.assertIsNone(malformed(before * 9 + "(a)" + after * 9))
            self.assertEqual(malformed(before * 9 + "((a))" + after * 9), ("Unbounded", "depth"))

    def test_the_part_would_start_before_its_first_token_is_read(self):
        for name, (before, _) in self.KINDS.items():
            self.assertEqual(malformed(before * 20), ("Unbounded", "depth"), name)
            self.assertEqual(malformed(before * 20 + ";"), ("Unbounded", "depth"), name)
            self.assertEqual(malformed(before * 19 + ";"), ("Malformed", len(before) * 19), name)

    def test_operands_of_binary_operators_and_conditions_have_no_level_of_their_own(self):
        self.assertIsNone(malformed("(" * 19 + "a + b * c || d" + ")" * 19))
        self.assertIsNone(malformed("(" * 18 + "a + ~b * -c || d ? a : b" + ")" * 18))
        self.assertEqual(malformed("(" * 19 + "a + ~b" + ")" * 19), ("Unbounded", "depth"))
        self.assertEqual(malformed("(" * 19 + "a ? b : c" + ")" * 19), ("Unbounded", "depth"))

    def test_levels_end_with_their_parts(self):
        deep = nested("(", ")", 19)
        self.assertIsNone(malformed(f"{deep} + {deep} * {deep}"))
        self.assertEqual(malformed(f"{deep} ? {deep} : {deep}"), ("Unbounded", "depth"))

    def test_targets(self):
        self.assertIsNone(failure(target, nested("{", "}", 19)))
        self.assertIsNone(failure(target, nested("{a, ", "}", 19)))
        self.assertEqual(failure(target, nested("{a, ", "}", 20)), ("Unbounded", "depth"))
        self.assertEqual(failure(target, nested("{", "}", 20)), ("Unbounded", "depth"))
        self.assertEqual(failure(target, "{" * 20), ("Unbounded", "depth"))
        self.assertEqual(failure(target, "{" * 19), ("Malformed", 19))
        self.assertIsNone(failure(target, "{" * 18 + "a[b]" + "}" * 18))
        self.assertEqual(failure(target, "{" * 19 + "a[b]" + "}" * 19), ("Unbounded", "depth"))
        self.assertIsNone(failure(target, "a[" + nested("(", ")", 18) + "]"))
        self.assertEqual(failure(target, "a[" + nested("(", ")", 19) + "]"), ("Unbounded", "depth"))
        self.assertEqual(failure(target, "a[0:" + nested("(", ")", 19) + "]"), ("Unbounded", "depth"))


class DepthsTest(unittest.TestCase):
    def test_depths_30_and_31(self):
        for sign in SIGNS:
            self.assertIsNone(malformed(f" {sign} ".join("a" * 30)), sign)
            self.assertEqual(malformed(f" {sign} ".join("a" * 31)), ("Unbounded", "depth"), sign)

    def test_each_kind_of_expression_may_be_too_deep(self):
        deep = " + ".join("a" * 29)
        for text in ("~({})", "a[{}]", "a[{}:0]", "a[0:{}]", "f({})", "f(0, {})", "{{{}}}", "{{0, {}}}", "{{{}: 0}}",
                     "{{0: {}}}", "{} ? 0 : 0", "0 ? {} : 0", "0 ? 0 : {}", "{} || 0", "0 || ({})"):
            self.assertIsNone(malformed(text.format(deep)), text)
            self.assertEqual(malformed(text.format(deep + " + a")), ("Unbounded", "depth"), text)

    def test_very_long_chains(self):
        self.assertEqual(malformed("+".join("a" * 10000)), ("Unbounded", "depth"))
        self.assertEqual(malformed("(" * 10000), ("Unbounded", "depth"))
        self.assertEqual(malformed("~" * 20000), ("Unbounded", "depth"))

    def test_wide_expressions_are_not_deep(self):
        self.assertEqual(len(expression("{" + ",".join("a" * 9000) + "}")[1]), 9000)

    def test_the_order_of_errors(self):
        deep = " + ".join("a" * 31)
        self.assertEqual(malformed(f"({deep}"), ("Unbounded", "depth"))
        self.assertEqual(malformed(f"{deep} )"), ("Unbounded", "depth"))
        self.assertEqual(malformed(" + ".join("a" * 30) + " + )"), ("Malformed", 120))
        self.assertEqual(malformed(f"( ; {deep}"), ("Malformed", 2))

    def test_an_index_of_a_target_may_be_as_deep_as_an_expression(self):
        deep = " + ".join("a" * 30)
        self.assertIsNone(failure(target, f"a[{deep}]"))
        self.assertEqual(failure(target, f"a[{deep} + a]"), ("Unbounded", "depth"))


if __name__ == "__main__":
    unittest.main()
