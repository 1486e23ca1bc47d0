import itertools
import unittest

from clockwright.parser import expression
from clockwright.widths import constant, is_constant, literal, width_of
from helpers import A, B, C, failure, lit, ref

TOP = 2 ** 64 - 1
WIDTHS = {"a": 4, "b": 7, "c": 1, "d": 64}
FUNCTIONS = {"f": 3, "g": 64}


def value(text, **table):
    return constant(expression(text), table=table)


def refused(text, **table):
    return failure(constant, expression(text), table=table)


def width(tree):
    return width_of(tree, widths=WIDTHS, functions=FUNCTIONS)


def width_refused(tree):
    return failure(width_of, tree, widths=WIDTHS, functions=FUNCTIONS)


class ConstantTest(unittest.TestCase):
    def test_vectors(self):
        self.assertEqual(constant(("lit", "0"), table={}), 0)
        self.assertEqual(constant(("lit", "0000101"), table={}), 5)
        self.assertEqual(constant(("lit", "1" * 64), table={}), TOP)

    def test_names(self):
        self.assertEqual(value("n", n=7), 7)
        self.assertEqual(value("n", n=TOP, m=3), TOP)
        self.assertEqual(value("n", n=0), 0)

    def test_each_binary_operator(self):
        operators = {
            "+": lambda a, b: a + b,
            "*": lambda a, b: a * b,
            "<<": lambda a, b: a << b,
            ">>": lambda a, b: a >> b,
            "&": lambda a, b: a & b,
            "|": lambda a, b: a | b,
            "^": lambda a, b: a ^ b,
            "<": lambda a, b: int(a < b),
            "<=": lambda a, b: int(a <= b),
            ">": lambda a, b: int(a > b),
            ">=": lambda a, b: int(a >= b),
            "==": lambda a, b: int(a == b),
            "!=": lambda a, b: int(a != b),
            "&&": lambda a, b: int(bool(a and b)),
            "||": lambda a, b: int(bool(a or b)),
        }
        for sign, operation in operators.items():
            for one, two in itertools.product((0, 1, 2, 3, 5, 12), repeat=2):
                found = value(f"n {sign} m", n=one, m=two)
                self.assertEqual(found, operation(one, two), (one, sign, two))
                self.assertIs(type(found), int)

    def test_difference(self):
        self.assertEqual(value("n - m", n=9, m=4), 5)
        self.assertEqual(value("n - m", n=4, m=4), 0)

    def test_not_and_choice(self):
        self.assertEqual([value("!n", n=n) for n in (0, 1, 2)], [1, 0, 0])
        self.assertIs(type(value("!n", n=0)), int)
        self.assertEqual([value("n ? 5 : 6", n=n) for n in (0, 1, 2)], [6, 5, 5])

    def test_operators_have_no_fixed_width(self):
        self.assertEqual(value("1 + 1"), 2)
        self.assertEqual(value("4'b1111 + 1"), 16)
        self.assertEqual(value("3 << 4"), 48)
        self.assertEqual(value("50 >> 4"), 3)

    def test_bounds(self):
        self.assertEqual(value("n + 0", n=TOP), TOP)
        self.assertEqual(value("(n - 1) + 1", n=TOP), TOP)
        for text in ("n + 1", "n * 2", "n << 1", "0 - 1", "n - n - 1", "n * n", "n + n"):
            self.assertEqual(refused(text, n=TOP), ("Width", "constant"), text)

    def test_bounds_hold_for_each_part(self):
        for text in ("(n + 1) - 1", "(3 - 4) + 1", "n * 2 >> 1", "1 ? 0 : 1 - 2", "0 ? 1 - 2 : 0", "0 && 1 - 2", "!(1 - 2)"):
            self.assertEqual(refused(text, n=TOP), ("Width", "constant"), text)

    def test_shifts(self):
        self.assertEqual(value("1 << 63"), 2 ** 63)
        self.assertEqual(value("n >> 63", n=TOP), 1)
        self.assertEqual(value("0 << 63"), 0)
        for text in ("0 << 64", "n >> 64", "1 << 64", "2 << 63", "0 << n", "0 >> n"):
            self.assertEqual(refused(text, n=TOP), ("Width", "constant"), text)

    def test_forms_that_are_not_constant(self):
        for text in ("~1", "-1", "&1", "|1", "^1", "{1}", "{2: 1}", "n[0]", "n[1:0]", "f(1)", "1 === 1"):
            self.assertEqual(refused(text, n=1), ("Misused", "constant"), text)

    def test_such_forms_come_before_their_parts(self):
        for text in ("~m", "-(1 - 2)", "{m}", "{m: m}", "n[m]", "m[m:m]", "f(m)", "m === m", "&(0 - 1)"):
            self.assertEqual(refused(text, n=1), ("Misused", "constant"), text)

    def test_vectors_that_are_not_known(self):
        for text in ("1'bx", "4'b1z00", "1 + 2'bx0"):
            self.assertEqual(refused(text), ("Misused", "constant"))

    def test_unknown_names(self):
        self.assertEqual(refused("m", n=1), ("Unknown", "m"))
        self.assertEqual(refused("n + m", n=1), ("Unknown", "m"))
        self.assertEqual(refused("!f"), ("Unknown", "f"))

    def test_the_order_of_errors(self):
        self.assertEqual(refused("p + q"), ("Unknown", "p"))
        self.assertEqual(refused("p > q"), ("Unknown", "q"))
        self.assertEqual(refused("(1 - 2) + q"), ("Width", "constant"))
        self.assertEqual(refused("p + (1 - 2)"), ("Unknown", "p"))
        self.assertEqual(refused("1'bx + q"), ("Misused", "constant"))
        self.assertEqual(refused("q + 1'bx"), ("Unknown", "q"))
        self.assertEqual(refused("0 << 64 + q"), ("Unknown", "q"))
        self.assertEqual(refused("p ? 1 - 2 : 1'bx"), ("Unknown", "p"))
        self.assertEqual(refused("1 ? 1 - 2 : q"), ("Width", "constant"))
        self.assertEqual(refused("0 ? 1 : q"), ("Unknown", "q"))
        self.assertEqual(refused("1 ? 1 : q"), ("Unknown", "q"))
        self.assertEqual(refused("1 || q"), ("Unknown", "q"))
        self.assertEqual(refused("0 && q"), ("Unknown", "q"))
        self.assertEqual(refused("(q + 1) - ~1"), ("Unknown", "q"))

    def test_the_example_of_the_document(self):
        self.assertEqual(value("(n - 1) * 2 + (n > 3)", n=4), 7)

    def test_the_table_does_not_change(self):
        table = {"n": 3}
        constant(expression("n + n"), table=table)
        self.assertEqual(table, {"n": 3})


class IsConstantTest(unittest.TestCase):
    def test_constants(self):
        for text in ("0", "n", "n + 1", "(n ? 1 : 2) << 63", "4'b0101"):
            self.assertIs(is_constant(expression(text), table={"n": 1}), True)

    def test_others(self):
        for text in ("m", "n - 2", "n << 64", "1'bx", "~n", "n[0]", "1 ? 1 : m", "18446744073709551615 + n", "1 === 1"):
            self.assertIs(is_constant(expression(text), table={"n": 1}), False)


class LiteralTest(unittest.TestCase):
    def test_literals(self):
        self.assertEqual(literal(0), ("lit", "0"))
        self.assertEqual(literal(1), ("lit", "1"))
        self.assertEqual(literal(4), ("lit", "100"))
        self.assertEqual(literal(TOP), ("lit", "1" * 64))


class WidthOfTest(unittest.TestCase):
    def test_leaves(self):
        self.assertEqual(width(("lit", "0xz1")), 4)
        self.assertEqual(width(A), 4)
        self.assertEqual(width(ref("d")), 64)

    def test_selections(self):
        self.assertEqual(width(("pick", "a", B)), 1)
        self.assertEqual(width(("part", "b", 5, 2)), 4)
        self.assertEqual(width(("part", "b", 3, 3)), 1)

    def test_cat_and_rep(self):
        self.assertEqual(width(("cat", (A, B, C))), 12)
        self.assertEqual(width(("cat", (A,))), 4)
        self.assertEqual(width(("rep", 3, B)), 21)
        self.assertEqual(width(("cat", (("rep", 57, C), B))), 64)
        self.assertEqual(width(("rep", 16, A)), 64)

    def test_calls(self):
        self.assertEqual(width(("call", "f", (A, B))), 3)
        self.assertEqual(width(("call", "g", (A,))), 64)

    def test_unary_operators(self):
        for head in ("not", "neg"):
            self.assertEqual(width((head, B)), 7)
        for head in ("redand", "redor", "redxor", "lnot"):
            self.assertEqual(width((head, B)), 1)

    def test_binary_operators(self):
        for head in ("and", "or", "xor", "add", "sub", "mul"):
            self.assertEqual(width((head, A, B)), 7)
            self.assertEqual(width((head, B, A)), 7)
        for head in ("shl", "shr"):
            self.assertEqual(width((head, A, B)), 4)
            self.assertEqual(width((head, B, A)), 7)
        for head in ("lt", "le", "eq", "ne", "same", "land", "lor"):
            self.assertEqual(width((head, A, B)), 1)

    def test_mux(self):
        self.assertEqual(width(("mux", ref("d"), A, B)), 7)
        self.assertEqual(width(("mux", C, B, A)), 7)

    def test_targets(self):
        target = ("cat", (("pick", "a", B), ("part", "b", 5, 2), A))
        self.assertEqual(width(target), 9)

    def test_unknown_names(self):
        for tree in (ref("q"), ("pick", "q", A), ("part", "q", 1, 0), ("call", "q", (A,)), ("add", A, ref("q")),
                     ("lnot", ref("q")), ("shl", A, ref("q")), ("mux", ref("q"), A, A), ("cat", (A, ref("q"))),
                     ("rep", 2, ref("q")), ("call", "f", (ref("q"),)), ("pick", "a", ref("q")), ("eq", ref("q"), A)):
            self.assertEqual(width_refused(tree), ("Unknown", "q"), tree)

    def test_a_name_comes_before_what_stands_behind_it(self):
        self.assertEqual(width_refused(("pick", "q", ref("r"))), ("Unknown", "q"))
        self.assertEqual(width_refused(("call", "q", (ref("r"),))), ("Unknown", "q"))
        self.assertEqual(width_refused(("add", ref("q"), ref("r"))), ("Unknown", "q"))

    def test_functions_are_not_signals(self):
        self.assertEqual(width_refused(ref("f")), ("Unknown", "f"))
        self.assertEqual(width_refused(("call", "a", (A,))), ("Unknown", "a"))

    def test_widths_above_64(self):
        self.assertEqual(width_refused(("cat", (ref("d"), C))), ("Width", 65))
        self.assertEqual(width_refused(("rep", 17, A)), ("Width", 68))
        self.assertEqual(width_refused(("rep", 2 ** 63, C)), ("Width", 2 ** 63))
        self.assertEqual(width_refused(("cat", (("part", "d", 63, 0), ("pick", "a", A)))), ("Width", 65))

    def test_parts_come_before_the_whole(self):
        self.assertEqual(width_refused(("cat", (("rep", 10, B), ("rep", 11, B)))), ("Width", 70))
        self.assertEqual(width_refused(("cat", (ref("d"), ref("d"), ref("q")))), ("Unknown", "q"))
        self.assertEqual(width_refused(("rep", 2, ("cat", (ref("d"), A)))), ("Width", 68))

    def test_parts_that_do_not_count_are_checked(self):
        wide = ("cat", (ref("d"), A))
        for tree in (("pick", "a", wide), ("lnot", wide), ("lt", A, wide), ("shl", A, wide), ("mux", wide, A, A),
                     ("call", "f", (A, wide)), ("redor", wide), ("same", wide, A)):
            self.assertEqual(width_refused(tree), ("Width", 68), tree)

    def test_keywords_are_needed(self):
        with self.assertRaises(TypeError):
            width_of(A, WIDTHS, FUNCTIONS)
        with self.assertRaises(TypeError):
            constant(lit(1), {})


if __name__ == "__main__":
    unittest.main()
