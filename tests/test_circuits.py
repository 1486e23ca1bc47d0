import copy
import random
import unittest

from clockwright import circuits, logic
from clockwright.circuits import add_bits, equal_bits, fit, less_than, multiply_bits, pick_bit, store_bit, text_bits
from clockwright.graph import Graph, node_values
from by_the_document import Reference
from drawn_graphs import bits, fields
from helpers import failure

ONE = ("negate_bits", "reduce_and", "reduce_or", "reduce_xor")
TWO = ("add_bits", "subtract_bits", "multiply_bits", "less_than", "less_or_equal", "equal_bits")
UNLIKE = ("shift_left", "shift_right", "pick_bit")


def number(values):
    return sum(bit << place for place, bit in enumerate(values))


def literals(first, many):
    """The literals of inputs from an index on."""
    return [2 * (1 + index) for index in range(first, first + many)]


def wrapped(result):
    return result if isinstance(result, list) else [result]


def values_of(graph, row, found):
    values = node_values(graph, row, [])
    return [values[literal // 2] ^ literal & 1 for literal in found]


class BitsTest(unittest.TestCase):
    def test_text_bits(self):
        for vector, found in (("011", [1, 1, 0]), ("0", [0]), ("1", [1]), ("1000", [0, 0, 0, 1])):
            self.assertEqual(text_bits(vector), found)

    def test_text_bits_of_vectors_that_are_not_known(self):
        for vector in ("x", "z", "01x", "z00", "1" * 63 + "x"):
            self.assertEqual(failure(text_bits, vector), ("Unbuildable", "lit"))

    def test_fit(self):
        given = [7, 2, 4]
        self.assertEqual([fit(given, width) for width in (1, 2, 3, 5)], [[7], [7, 2], [7, 2, 4], [7, 2, 4, 0, 0]])
        fit(given, 3).append(1)
        self.assertEqual(given, [7, 2, 4])


class ExactTest(unittest.TestCase):
    """The ANDs in their order."""

    def check(self, name, *arguments, inputs=9):
        ours, theirs = Graph(inputs, []), Graph(inputs, [])
        given = copy.deepcopy(arguments)
        result = getattr(circuits, name)(ours, *arguments)
        self.assertEqual(arguments, given)
        self.assertEqual(result, getattr(Reference(theirs), name)(*arguments), name)
        self.assertEqual(fields(ours), fields(theirs), name)
        # an equal call on an equal graph; and the results are new lists
        again = getattr(circuits, name)(ours, *arguments)
        self.assertEqual((again, fields(ours)), (result, fields(theirs)))
        for argument in arguments:
            self.assertIsNot(result, argument)

    def draw(self, drawn, many):
        """Literals of inputs and constants."""
        return [drawn.randrange(20) for _ in range(many)]

    def test_functions_of_one_list(self):
        for name in ONE:
            for width in (1, 2, 3, 8):
                self.check(name, literals(0, width))
                self.check(name, [literal ^ 1 for literal in literals(0, width)])

    def test_functions_of_two_lists_of_the_same_width(self):
        for name in TWO:
            for width in (1, 2, 3, 4):
                self.check(name, literals(0, width), literals(width, width))
                self.check(name, literals(width, width), literals(0, width))
                self.check(name, literals(0, width), literals(0, width))

    def test_functions_of_lists_of_unlike_widths(self):
        for name in UNLIKE:
            for width in (1, 2, 3, 5):
                for many in (1, 2, 3, 4):
                    self.check(name, literals(0, width), literals(width, many))

    def test_choose_bits(self):
        for width in (1, 2, 4):
            self.check("choose_bits", 18, literals(0, width), literals(width, width))
            self.check("choose_bits", 19, literals(0, width), literals(0, width))

    def test_store_bit(self):
        for width in (1, 2, 3, 5, 6):
            for many in (1, 2, 3):
                self.check("store_bit", literals(0, width), literals(width, many - 1) + [19], 18)

    def test_constants_and_equal_literals_among_the_operands(self):
        drawn = random.Random(5)
        for _ in range(40):
            width, many = drawn.randint(1, 5), drawn.randint(1, 3)
            for name in ONE:
                self.check(name, self.draw(drawn, width))
            for name in TWO:
                self.check(name, self.draw(drawn, width), self.draw(drawn, width))
            for name in UNLIKE:
                self.check(name, self.draw(drawn, width), self.draw(drawn, many))
            self.check("choose_bits", drawn.randrange(20), self.draw(drawn, width), self.draw(drawn, width))
            self.check("store_bit", self.draw(drawn, width), self.draw(drawn, many), drawn.randrange(20))

    def test_long_shifts(self):
        for name in UNLIKE:
            self.check(name, literals(0, 3), [2 * index + 2 for index in range(64)], inputs=64)
        self.check("store_bit", literals(0, 3), [2 * index + 2 for index in range(64)], 7, inputs=64)

    def test_the_examples(self):
        graph = Graph(2, [])
        self.assertEqual(add_bits(graph, [2], [4]), [11])
        self.assertEqual(graph.ands, [(2, 5), (3, 4), (7, 9)])
        self.assertEqual(pick_bit(graph, [2, 4], [1]), 4)

    def test_a_sum_of_two_bits(self):
        graph = Graph(4, [])
        self.assertEqual(add_bits(graph, [2, 4], [6, 8]), [15, 29])
        self.assertEqual(graph.ands, [
            (2, 7), (3, 6), (11, 13),  # the exclusive of the bits 0
            (2, 6),  # the carry
            (4, 9), (5, 8), (19, 21),  # the exclusive of the bits 1
            (17, 23), (16, 22), (25, 27),  # and that with the carry
        ])

    def test_a_comparison_of_one_bit(self):
        graph = Graph(2, [])
        self.assertEqual(less_than(graph, [2], [4]), 12)
        self.assertEqual(graph.ands, [(2, 5), (3, 4), (7, 9), (4, 11)])
        graph = Graph(2, [])
        self.assertEqual(equal_bits(graph, [2], [4]), 10)

    def test_a_product_of_two_bits(self):
        graph = Graph(4, [])
        self.assertEqual(multiply_bits(graph, [2, 4], [6, 8])[0], 10)
        self.assertEqual(graph.ands[:3], [(2, 6), (4, 6), (2, 8)])


class ValuesTest(unittest.TestCase):
    """The values for all inputs of small widths."""

    def check(self, width, many, name, expected):
        graph = Graph(width + many, [])
        found = wrapped(getattr(circuits, name)(graph, literals(0, width), literals(width, many)))
        for row in bits(width + many):
            a, b = number(row[:width]), number(row[width:])
            self.assertEqual(number(values_of(graph, row, found)), expected(a, b), (name, row))

    def test_arithmetic(self):
        for width in (1, 2, 3, 4):
            top = 2 ** width
            self.check(width, width, "add_bits", lambda a, b: (a + b) % top)
            self.check(width, width, "subtract_bits", lambda a, b: (a - b) % top)
            self.check(width, width, "multiply_bits", lambda a, b: a * b % top)

    def test_comparisons(self):
        for width in (1, 2, 3, 4):
            self.check(width, width, "less_than", lambda a, b: int(a < b))
            self.check(width, width, "less_or_equal", lambda a, b: int(a <= b))
            self.check(width, width, "equal_bits", lambda a, b: int(a == b))

    def test_shifts_also_by_more_than_the_width(self):
        for width in (1, 2, 3, 5):
            for many in (1, 2, 3, 4):
                self.check(width, many, "shift_left", lambda a, b: (a << b) % 2 ** width)
                self.check(width, many, "shift_right", lambda a, b: a >> b)

    def test_picks_also_beyond_the_vector(self):
        for width in (1, 2, 3, 5):
            for many in (1, 2, 3, 4):
                self.check(width, many, "pick_bit", lambda a, b: a >> b & 1)

    def test_functions_of_one_list(self):
        for width in (1, 2, 3, 4, 6):
            top = 2 ** width
            for name, expected in (("negate_bits", lambda a: -a % top), ("reduce_and", lambda a: int(a == top - 1)),
                                   ("reduce_or", lambda a: int(a > 0)), ("reduce_xor", lambda a: f"{a:b}".count("1") % 2)):
                graph = Graph(width, [])
                found = wrapped(getattr(circuits, name)(graph, literals(0, width)))
                for row in bits(width):
                    self.assertEqual(number(values_of(graph, row, found)), expected(number(row)))

    def test_choose_bits(self):
        graph = Graph(7, [])
        found = circuits.choose_bits(graph, 2, literals(1, 3), literals(4, 3))
        for row in bits(7):
            self.assertEqual(values_of(graph, row, found), row[1:4] if row[0] else row[4:])

    def test_store_bit_also_with_an_index_that_is_too_short(self):
        for width in (1, 2, 3, 5):
            for many in (1, 2, 3):
                graph = Graph(width + many + 1, [])
                index, bit = literals(width, many), 2 * (width + many + 1)
                found = store_bit(graph, literals(0, width), index, bit)
                for row in bits(width + many + 1):
                    expected = row[:width]
                    place = number(row[width:-1])
                    if place < width:
                        expected[place] = row[-1]
                    self.assertEqual(values_of(graph, row, found), expected)

    def test_bits_that_the_index_cannot_reach_keep_their_literals(self):
        graph = Graph(9, [])
        self.assertEqual(store_bit(graph, literals(0, 6), [14], 16)[2:], literals(2, 4))
        self.assertEqual(store_bit(graph, literals(0, 6), [14, 18], 16)[4:], literals(4, 2))

    def test_constants(self):
        graph = Graph(0, [])
        for a in range(8):
            for b in range(8):
                x, y = (text_bits(logic.from_number(value, width=3)) for value in (a, b))
                self.assertEqual(number(add_bits(graph, x, y)), (a + b) % 8)
                self.assertEqual(number(circuits.shift_left(graph, x, y)), (a << b) % 8)
                self.assertEqual(circuits.less_than(graph, x, y), int(a < b))
        self.assertEqual(graph.ands, [])


class LimitTest(unittest.TestCase):
    def test_a_graph_that_becomes_too_large(self):
        one, two = literals(0, 20), literals(20, 20)
        for name in TWO + UNLIKE:
            graph = Graph(3999, [])
            self.assertEqual(failure(getattr(circuits, name), graph, one, two), ("Unbounded", "graph"), name)
        for name in ONE:
            graph = Graph(3999, [])
            self.assertEqual(failure(getattr(circuits, name), graph, one), ("Unbounded", "graph"), name)
        graph = Graph(3999, [])
        self.assertEqual(failure(circuits.choose_bits, graph, 2, [4], [6]), ("Unbounded", "graph"))
        self.assertEqual(failure(store_bit, graph, [4], [6], 8), ("Unbounded", "graph"))
        self.assertEqual(failure(circuits.expression_bits, graph, ("redor", ("ref", "a")), {"a": [2, 4]}, None),
                         ("Unbounded", "graph"))


if __name__ == "__main__":
    unittest.main()
