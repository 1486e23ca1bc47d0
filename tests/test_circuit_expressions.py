import copy
import itertools
import unittest

from clockwright.circuits import expression_bits
from clockwright.design import Design
from clockwright.evaluate import value
from clockwright.graph import Graph, node_values
from by_the_document import Reference
from drawn_graphs import bits, fields
from helpers import A, B, C, failure

BINARY = "and or xor add sub mul shl shr lt le eq ne land lor".split()
UNARY = "not neg redand redor redxor lnot".split()


def lit(vector):
    return ("lit", vector)


def environment(**widths):
    """A graph with inputs for these names, and their bits."""
    env = {}
    first = 1
    for name, width in widths.items():
        env[name] = [2 * (first + index) for index in range(width)]
        first += width
    return Graph(first - 1, []), env


class Caller:
    """Records its calls."""

    def __init__(self, answer):
        self.calls = []
        self.answer = answer

    def call(self, name, arguments):
        self.calls.append((name, copy.deepcopy(arguments)))
        return list(self.answer)


def built(tree, caller=None, **widths):
    graph, env = environment(**widths)
    before = copy.deepcopy(env)
    found = expression_bits(graph, tree, env, caller)
    assert env == before
    assert all(found is not own for own in env.values())
    return found, graph


class FormsTest(unittest.TestCase):
    def test_literals(self):
        self.assertEqual(built(lit("0110"))[0], [0, 1, 1, 0])

    def test_names_and_parts(self):
        self.assertEqual(built(B, a=2, b=3)[0], [6, 8, 10])
        for high, low, found in ((2, 0, [6, 8, 10]), (1, 1, [8]), (2, 1, [8, 10]), (0, 0, [6])):
            self.assertEqual(built(("part", "b", high, low), a=2, b=3)[0], found)

    def test_picks_with_a_literal_index(self):
        for index, found in (("0", 2), ("01", 4), ("10", 6), ("0010", 6), ("11", 0), ("111", 0), ("1" * 64, 0)):
            self.assertEqual(built(("pick", "a", lit(index)), a=3)[0], [found])

    def test_other_picks(self):
        found, graph = built(("pick", "a", ("not", B)), a=3, b=2)
        reference = Graph(5, [])
        self.assertEqual(found, [Reference(reference).pick_bit([2, 4, 6], [9, 11])])
        self.assertEqual(fields(graph), fields(reference))

    def test_cat_and_rep(self):
        self.assertEqual(built(("cat", (A, lit("01"), B)), a=1, b=2)[0], [4, 6, 1, 0, 2])
        self.assertEqual(built(("rep", 3, A), a=2)[0], [2, 4] * 3)
        found, graph = built(("rep", 2, ("redand", A)), a=2)
        self.assertEqual((found, graph.ands), ([6, 6], [(2, 4)]))

    def test_calls(self):
        caller = Caller([7, 0])
        found, graph = built(("not", ("call", "f", (("not", A), ("redand", B)))), caller, a=2, b=2)
        self.assertEqual(found, [6, 1])
        self.assertEqual(caller.calls, [("f", [[3, 5], [10]])])
        self.assertEqual(graph.ands, [(6, 8)])

    def test_arguments_are_built_before_the_call(self):
        order = []

        class Ordered:
            def call(self, name, arguments):
                order.append(name)
                return arguments[0]

        built(("call", "g", (("call", "f", (A,)), ("call", "h", (A,)))), Ordered(), a=1)
        self.assertEqual(order, ["f", "h", "g"])


class ExactTest(unittest.TestCase):
    """Which functions a node calls, and with which bits."""

    def check(self, tree, by_hand, **widths):
        found, graph = built(tree, **widths)
        reference, env = environment(**widths)
        expected = by_hand(Reference(reference), reference, *env.values())
        self.assertEqual(found, expected, tree)
        self.assertEqual(fields(graph), fields(reference), tree)

    def test_operators_of_the_greater_width(self):
        names = {"add": "add_bits", "sub": "subtract_bits", "mul": "multiply_bits"}
        for head, name in names.items():
            self.check((head, A, B), lambda made, graph, a, b: getattr(made, name)(a + [0, 0], b), a=1, b=3)
            self.check((head, A, B), lambda made, graph, a, b: getattr(made, name)(a, b + [0]), a=3, b=2)
        names = {"lt": "less_than", "le": "less_or_equal", "eq": "equal_bits"}
        for head, name in names.items():
            self.check((head, A, B), lambda made, graph, a, b: [getattr(made, name)(a + [0, 0], b)], a=1, b=3)
            self.check((head, A, B), lambda made, graph, a, b: [getattr(made, name)(a, b + [0])], a=3, b=2)
        self.check(("ne", A, B), lambda made, graph, a, b: [made.equal_bits(a, b + [0]) ^ 1], a=3, b=2)

    def test_bitwise_operators(self):
        for head, name in (("and", "conjunction"), ("or", "disjunction"), ("xor", "exclusive")):
            def by_hand(made, graph, a, b):
                call = getattr(graph, name)
                return [call(one, two) for one, two in itertools.zip_longest(a, b, fillvalue=0)]

            self.check((head, A, B), by_hand, a=3, b=3)
            self.check((head, A, B), by_hand, a=1, b=3)
            self.check((head, A, B), by_hand, a=3, b=2)

    def test_shifts_keep_the_width_of_the_first_operand(self):
        for a, b in ((1, 3), (3, 1), (3, 3)):
            self.check(("shl", A, B), lambda made, graph, one, two: made.shift_left(one, two), a=a, b=b)
            self.check(("shr", A, B), lambda made, graph, one, two: made.shift_right(one, two), a=a, b=b)

    def test_operators_with_one_operand(self):
        self.check(("not", A), lambda made, graph, a: [literal ^ 1 for literal in a], a=3)
        self.check(("neg", A), lambda made, graph, a: made.negate_bits(a), a=3)
        self.check(("lnot", A), lambda made, graph, a: [made.reduce_or(a) ^ 1], a=3)
        for head, name in (("redand", "reduce_and"), ("redor", "reduce_or"), ("redxor", "reduce_xor")):
            self.check((head, A), lambda made, graph, a: [getattr(made, name)(a)], a=3)
            self.check((head, A), lambda made, graph, a: a, a=1)

    def test_truths(self):
        def both(made, graph, a, b):
            return [graph.conjunction(made.reduce_or(a), made.reduce_or(b))]

        def either(made, graph, a, b):
            return [graph.disjunction(made.reduce_or(a), made.reduce_or(b))]

        self.check(("land", A, B), both, a=2, b=3)
        self.check(("lor", A, B), either, a=2, b=3)

    def test_truths_are_built_behind_both_operands(self):
        def by_hand(made, graph, a, b):
            one, two = made.add_bits(a, b), made.subtract_bits(a, b)
            return [graph.conjunction(made.reduce_or(one), made.reduce_or(two))]

        self.check(("land", ("add", A, B), ("sub", A, B)), by_hand, a=2, b=2)

    def test_mux(self):
        def by_hand(made, graph, a, b, c):
            return made.choose_bits(made.reduce_or(a), b + [0], c)

        self.check(("mux", A, B, C), by_hand, a=2, b=1, c=2)

    def test_the_operands_of_a_mux_are_built_before_the_truth(self):
        def by_hand(made, graph, a, b):
            condition, one, two = made.add_bits(a, b), made.reduce_and(a), made.reduce_and(b)
            return [graph.choice(made.reduce_or(condition), one, two)]

        self.check(("mux", ("add", A, B), ("redand", A), ("redand", B)), by_hand, a=2, b=2)

    def test_operands_are_built_from_left_to_right(self):
        def by_hand(made, graph, a, b):
            one = made.reduce_and(a)
            two = made.reduce_and(b)
            three = made.reduce_xor(a)
            return [three, two, one]

        self.check(("cat", (("redand", A), ("redand", B), ("redxor", A))), by_hand, a=2, b=2)


class ValuesTest(unittest.TestCase):
    def check(self, tree, **widths):
        found, graph = built(tree, **widths)
        for row in bits(graph.inputs):
            names = {}
            left = list(row)
            for name, width in widths.items():
                names[name] = "".join(map(str, reversed(left[:width])))
                left = left[width:]
            values = node_values(graph, row, [])
            vector = "".join(str(values[literal // 2] ^ literal & 1) for literal in reversed(found))
            self.assertEqual(vector, value(Design(), names, tree), (tree, names))

    def test_operators(self):
        for head in UNARY:
            for a in (1, 2, 4):
                self.check((head, A), a=a)
        for head in BINARY:
            for a, b in ((1, 1), (2, 2), (1, 3), (3, 1), (3, 3), (4, 2), (2, 4)):
                self.check((head, A, B), a=a, b=b)
        for a, b, c in ((1, 1, 1), (2, 1, 3), (1, 3, 2)):
            self.check(("mux", A, B, C), a=a, b=b, c=c)

    def test_picks(self):
        for a, b in ((1, 1), (1, 3), (3, 2), (4, 2), (5, 2), (5, 3), (6, 1)):
            self.check(("pick", "a", B), a=a, b=b)
        for index in ("0", "1", "10", "011", "111"):
            self.check(("pick", "a", lit(index)), a=3)

    def test_nested(self):
        tree = ("add", ("cat", (A, ("mux", ("lt", A, B), ("not", B), lit("10101")))), ("shl", ("rep", 2, B), ("neg", A)))
        self.check(tree, a=2, b=3)


class ErrorsTest(unittest.TestCase):
    def failure(self, tree, **env):
        found = {name: list(literals) for name, literals in env.items()}
        return failure(expression_bits, Graph(3, []), tree, found, None)

    def test_literals_that_are_not_known(self):
        for vector in ("x", "z", "0x1", "1" * 20 + "z"):
            self.assertEqual(self.failure(lit(vector)), ("Unbuildable", "lit"))
            self.assertEqual(self.failure(("add", A, lit(vector)), a=[2]), ("Unbuildable", "lit"))
            self.assertEqual(self.failure(("pick", "a", lit(vector)), a=[2, 4]), ("Unbuildable", "lit"))
            self.assertEqual(self.failure(("pick", "a", ("not", lit(vector))), a=[2, 4]), ("Unbuildable", "lit"))

    def test_same(self):
        self.assertEqual(self.failure(("same", A, B), a=[2], b=[4]), ("Unbuildable", "same"))

    def test_same_comes_before_its_operands(self):
        self.assertEqual(self.failure(("same", lit("x"), A), a=[None]), ("Unbuildable", "same"))
        self.assertEqual(self.failure(("same", A, lit("x")), a=[None]), ("Unbuildable", "same"))
        self.assertEqual(self.failure(("add", lit("x"), ("same", A, A)), a=[2]), ("Unbuildable", "lit"))
        self.assertEqual(self.failure(("add", A, ("same", A, A)), a=[None]), ("Latched", "a"))

    def test_bits_without_a_value(self):
        self.assertEqual(self.failure(A, a=[2, None]), ("Latched", "a"))
        self.assertEqual(self.failure(("not", B), a=[2], b=[None, None]), ("Latched", "b"))

    def test_parts(self):
        self.assertEqual(self.failure(("part", "a", 1, 0), a=[2, None, 4]), ("Latched", "a"))
        self.assertIsNone(self.failure(("part", "a", 2, 2), a=[2, None, 4]))
        self.assertEqual(built(("part", "a", 0, 0), a=3)[0], [2])

    def test_picks_with_a_literal_index(self):
        self.assertEqual(self.failure(("pick", "a", lit("1")), a=[2, None, 4]), ("Latched", "a"))
        for index in ("0", "10", "11", "111"):
            self.assertIsNone(self.failure(("pick", "a", lit(index)), a=[2, None, 4]))

    def test_picks_outside_of_the_range_read_nothing(self):
        graph = Graph(3, [])
        self.assertEqual(expression_bits(graph, ("pick", "a", lit("10")), {"a": [None, None]}, None), [0])

    def test_other_picks(self):
        for place in range(3):
            env = [2, 4, 6]
            env[place] = None
            self.assertEqual(self.failure(("pick", "a", B), a=env, b=[2]), ("Latched", "a"))

    def test_the_index_comes_before_the_name(self):
        self.assertEqual(self.failure(("pick", "a", B), a=[None], b=[None]), ("Latched", "b"))
        self.assertEqual(self.failure(("pick", "a", lit("x")), a=[None]), ("Unbuildable", "lit"))
        self.assertEqual(self.failure(("pick", "a", ("same", B, B)), a=[None], b=[None]), ("Unbuildable", "same"))

    def test_the_first_of_several_operands(self):
        self.assertEqual(self.failure(("add", A, B), a=[None], b=[None]), ("Latched", "a"))
        self.assertEqual(self.failure(("mux", A, lit("z"), B), a=[2], b=[None]), ("Unbuildable", "lit"))
        self.assertEqual(self.failure(("cat", (B, lit("z"), A)), a=[None], b=[None]), ("Latched", "b"))
        self.assertEqual(self.failure(("call", "f", (B, A)), a=[None], b=[2]), ("Latched", "a"))

    def test_what_the_caller_raises(self):
        from clockwright.errors import Unbounded

        class Refusing:
            def call(self, name, arguments):
                raise Unbounded("steps")

        self.assertEqual(failure(expression_bits, Graph(1, []), ("not", ("call", "f", (A,))), {"a": [2]}, Refusing()),
                         ("Unbounded", "steps"))


if __name__ == "__main__":
    unittest.main()
