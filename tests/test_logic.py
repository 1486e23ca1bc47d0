import itertools
import unittest

from clockwright import logic
from helpers import failure

CHARACTERS = "01xz"


def vectors(width):
    return ["".join(bits) for bits in itertools.product(CHARACTERS, repeat=width)]


def known_vectors(width):
    return ["".join(bits) for bits in itertools.product("01", repeat=width)]


def up_to(width):
    return [vector for many in range(1, width + 1) for vector in vectors(many)]


def extended(one, two):
    width = max(len(one), len(two))
    return one.rjust(width, "0"), two.rjust(width, "0")


def possible(bit):
    return (int(bit),) if bit in "01" else (0, 1)


def bit_of(results):
    """The bit that stands for a set of possible results."""
    return str(list(results)[0]) if len(results) == 1 else "x"


def by_cases(operation, *bits):
    """What an operator on bits tells if each unknown bit may be 0 or 1."""
    return bit_of({operation(*case) for case in itertools.product(*[possible(bit) for bit in bits])})


BIT_OPERATORS = (
    (logic.bit_and, logic.reduce_and, lambda a, b: a & b),
    (logic.bit_or, logic.reduce_or, lambda a, b: a | b),
)

UNARY = (
    logic.bit_not, logic.reduce_and, logic.reduce_or, logic.reduce_xor, logic.negate,
    logic.truth, logic.logic_not,
)
BINARY = (
    logic.bit_and, logic.bit_or, logic.bit_xor, logic.add, logic.subtract, logic.multiply,
    logic.less, logic.less_equal, logic.equal, logic.not_equal, logic.logic_and, logic.logic_or,
    logic.shift_left, logic.shift_right, logic.pick,
)


class VectorsTest(unittest.TestCase):
    def test_is_vector(self):
        for value in ("0", "1", "x", "z", "01xz", "z" * 64):
            self.assertIs(logic.is_vector(value), True)
        for value in ("", "z" * 65, "2", "0X", "01 ", "0\n", 0, 1, True, None, ["0"], ("0",), b"0", {"0": "1"}):
            self.assertIs(logic.is_vector(value), False)

    def test_is_known(self):
        for vector in up_to(3):
            self.assertIs(logic.is_known(vector), "x" not in vector and "z" not in vector)

    def test_is_refined(self):
        self.assertIs(logic.is_refined("0x1z", "0011"), True)
        self.assertIs(logic.is_refined("0x1z", "0x1z"), True)
        self.assertIs(logic.is_refined("xz", "zx"), True)
        self.assertIs(logic.is_refined("0x1z", "1x1z"), False)
        self.assertIs(logic.is_refined("01", "0x"), False)
        self.assertIs(logic.is_refined("1", "z"), False)

    def test_is_refined_for_each_pair_of_bits(self):
        for one, two in itertools.product(CHARACTERS, repeat=2):
            self.assertIs(logic.is_refined(one, two), one in "xz" or one == two)

    def test_a_vector_of_another_width_does_not_refine(self):
        self.assertIs(logic.is_refined("x", "xx"), False)
        self.assertIs(logic.is_refined("01", "1"), False)

    def test_to_number(self):
        self.assertEqual(logic.to_number("0"), 0)
        self.assertEqual(logic.to_number("0110"), 6)
        self.assertEqual(logic.to_number("1" * 64), 2 ** 64 - 1)

    def test_to_number_of_unknown_vectors(self):
        for vector in ("x", "z", "1x", "z0"):
            self.assertEqual(failure(logic.to_number, vector), ("Misused", vector))

    def test_from_number(self):
        self.assertEqual(logic.from_number(5, width=3), "101")
        self.assertEqual(logic.from_number(5, width=5), "00101")
        self.assertEqual(logic.from_number(0, width=1), "0")
        self.assertEqual(logic.from_number(2 ** 64 - 1, width=64), "1" * 64)

    def test_from_number_beyond_the_width(self):
        self.assertEqual(logic.from_number(13, width=2), "01")
        self.assertEqual(logic.from_number(2 ** 64, width=64), "0" * 64)
        self.assertEqual(logic.from_number(2 ** 70 + 9, width=4), "1001")

    def test_from_negative_numbers(self):
        self.assertEqual(logic.from_number(-1, width=4), "1111")
        self.assertEqual(logic.from_number(-6, width=3), "010")
        self.assertEqual(logic.from_number(-1, width=64), "1" * 64)
        self.assertEqual(logic.from_number(-(2 ** 64), width=64), "0" * 64)

    def test_from_number_refuses_widths(self):
        for width in (0, 65, -1, 1000):
            self.assertEqual(failure(logic.from_number, 3, width=width), ("Width", width))

    def test_least_width(self):
        for number, width in ((0, 1), (1, 1), (2, 2), (3, 2), (4, 3), (2 ** 63, 64), (2 ** 64 - 1, 64)):
            self.assertEqual(logic.least_width(number), width)

    def test_resize(self):
        self.assertEqual(logic.resize("x1", width=4), "00x1")
        self.assertEqual(logic.resize("zx10", width=2), "10")
        self.assertEqual(logic.resize("zx10", width=3), "x10")
        self.assertEqual(logic.resize("x", width=1), "x")
        self.assertEqual(logic.resize("z", width=64), "0" * 63 + "z")
        self.assertEqual(logic.resize("1" + "0" * 63, width=1), "0")

    def test_resize_refuses_widths(self):
        for width in (0, 65, -3):
            self.assertEqual(failure(logic.resize, "01", width=width), ("Width", width))

    def test_keywords_are_needed(self):
        for call in (logic.from_number, logic.resize):
            with self.assertRaises(TypeError):
                call("1", 1)
        with self.assertRaises(TypeError):
            logic.part("01", 1, 0)


class BitwiseTest(unittest.TestCase):
    def test_not(self):
        self.assertEqual(logic.bit_not("01xz"), "10xx")
        self.assertEqual(logic.bit_not("0" * 64), "1" * 64)

    def test_and_and_or_for_each_pair(self):
        for bitwise, _, operation in BIT_OPERATORS:
            for one, two in itertools.product(CHARACTERS, repeat=2):
                self.assertEqual(bitwise(one, two), by_cases(operation, one, two), (bitwise, one, two))

    def test_xor_for_each_pair(self):
        for one, two in itertools.product(CHARACTERS, repeat=2):
            expected = str(int(one != two)) if one in "01" and two in "01" else "x"
            self.assertEqual(logic.bit_xor(one, two), expected)

    def test_results_consist_of_the_results_of_the_bits(self):
        for operator in (logic.bit_and, logic.bit_or, logic.bit_xor):
            for one in up_to(2):
                for two in up_to(2):
                    left, right = extended(one, two)
                    expected = "".join(operator(a, b) for a, b in zip(left, right))
                    self.assertEqual(operator(one, two), expected)

    def test_unlike_widths(self):
        self.assertEqual(logic.bit_and("1", "xx"), "0x")
        self.assertEqual(logic.bit_or("zz", "1"), "x1")
        self.assertEqual(logic.bit_xor("1" * 64, "1"), "1" * 63 + "0")
        self.assertEqual(logic.bit_and("1", "1" * 64), "0" * 63 + "1")

    def test_the_example_of_the_document(self):
        self.assertEqual(logic.bit_and("01xz", "0x0x"), "0x0x")

    def test_reductions_of_width_one(self):
        for reduction in (logic.reduce_and, logic.reduce_or, logic.reduce_xor):
            for bit, expected in zip(CHARACTERS, "01xx"):
                self.assertEqual(reduction(bit), expected)

    def test_reductions(self):
        for _, reduction, operation in BIT_OPERATORS:
            for vector in up_to(3):
                def fold(*bits):
                    result = bits[0]
                    for bit in bits[1:]:
                        result = operation(result, bit)
                    return result
                self.assertEqual(reduction(vector), by_cases(fold, *vector), vector)

    def test_reduction_by_xor(self):
        for vector in up_to(3):
            known = "x" not in vector and "z" not in vector
            self.assertEqual(logic.reduce_xor(vector), str(vector.count("1") & 1) if known else "x")

    def test_reductions_of_width_64(self):
        self.assertEqual(logic.reduce_and("1" * 64), "1")
        self.assertEqual(logic.reduce_and("x" * 63 + "0"), "0")
        self.assertEqual(logic.reduce_or("0" * 64), "0")
        self.assertEqual(logic.reduce_or("1" + "z" * 63), "1")
        self.assertEqual(logic.reduce_xor("1" * 63 + "0"), "1")
        self.assertEqual(logic.reduce_xor("1" * 63 + "z"), "x")


class ArithmeticTest(unittest.TestCase):
    OPERATORS = (
        (logic.add, lambda a, b: a + b),
        (logic.subtract, lambda a, b: a - b),
        (logic.multiply, lambda a, b: a * b),
    )

    def test_known_operands(self):
        for operator, operation in self.OPERATORS:
            for one in known_vectors(3) + known_vectors(1):
                for two in known_vectors(3) + known_vectors(2):
                    width = max(len(one), len(two))
                    expected = operation(int(one, 2), int(two, 2)) % 2 ** width
                    self.assertEqual(operator(one, two), format(expected, f"0{width}b"))

    def test_operands_that_are_not_known(self):
        for operator, _ in self.OPERATORS:
            for one in up_to(2):
                for two in up_to(2):
                    if not (set(one + two) <= set("01")):
                        self.assertEqual(operator(one, two), "x" * max(len(one), len(two)))

    def test_width_64(self):
        self.assertEqual(logic.add("1" * 64, "1"), "0" * 64)
        self.assertEqual(logic.subtract("0", "0" * 63 + "1"), "1" * 64)
        self.assertEqual(logic.multiply("1" * 64, "1" * 64), "0" * 63 + "1")
        self.assertEqual(logic.add("z", "0" * 64), "x" * 64)

    def test_negate(self):
        for vector in known_vectors(1) + known_vectors(3):
            width = len(vector)
            self.assertEqual(logic.negate(vector), format(-int(vector, 2) % 2 ** width, f"0{width}b"))
        self.assertEqual(logic.negate("0" * 63 + "1"), "1" * 64)
        self.assertEqual(logic.negate("0x1"), "xxx")
        self.assertEqual(logic.negate("z"), "x")

    def test_the_example_of_the_document(self):
        self.assertEqual(logic.add("1100", "101"), "0001")


class ComparisonTest(unittest.TestCase):
    OPERATORS = (
        (logic.less, lambda a, b: a < b),
        (logic.less_equal, lambda a, b: a <= b),
        (logic.equal, lambda a, b: a == b),
        (logic.not_equal, lambda a, b: a != b),
    )

    def test_known_operands(self):
        for operator, operation in self.OPERATORS:
            for one in known_vectors(1) + known_vectors(3):
                for two in known_vectors(2) + known_vectors(3):
                    self.assertEqual(operator(one, two), str(int(operation(int(one, 2), int(two, 2)))))

    def test_operands_that_are_not_known(self):
        for operator, _ in self.OPERATORS:
            for one, two in (("x", "0"), ("0", "z"), ("1x", "00"), ("zz", "zz"), ("x0", "1")):
                self.assertEqual(operator(one, two), "x")

    def test_width_64(self):
        self.assertEqual(logic.less("1" * 63 + "0", "1" * 64), "1")
        self.assertEqual(logic.less_equal("1" * 64, "1"), "0")
        self.assertEqual(logic.equal("1", "0" * 63 + "1"), "1")
        self.assertEqual(logic.not_equal("1" + "0" * 63, "0"), "1")

    def test_same(self):
        for one in up_to(2):
            for two in up_to(2):
                left, right = extended(one, two)
                self.assertEqual(logic.same(one, two), "1" if left == right else "0")

    def test_same_at_width_64(self):
        self.assertEqual(logic.same("x", "0" * 63 + "x"), "1")
        self.assertEqual(logic.same("x" * 64, "x" * 63 + "z"), "0")


class TruthTest(unittest.TestCase):
    def test_truth(self):
        for vector in up_to(3):
            expected = "1" if "1" in vector else "0" if set(vector) == {"0"} else "x"
            self.assertEqual(logic.truth(vector), expected)
        self.assertEqual(logic.truth("0" * 63 + "1"), "1")
        self.assertEqual(logic.truth("0" * 64), "0")

    def test_logical_operators(self):
        for one in up_to(2):
            self.assertEqual(logic.logic_not(one), logic.bit_not(logic.truth(one)))
            for two in up_to(2):
                truths = logic.truth(one), logic.truth(two)
                self.assertEqual(logic.logic_and(one, two), by_cases(lambda a, b: a & b, *truths))
                self.assertEqual(logic.logic_or(one, two), by_cases(lambda a, b: a | b, *truths))


class ShiftTest(unittest.TestCase):
    def test_amounts_below_at_and_beyond_the_width(self):
        for vector in ("1", "z", "1x0", "z01x", "x" * 64, "10" * 32):
            width = len(vector)
            for number in (0, 1, 2, width - 1, width, width + 1, 63, 64, 65, 2 ** 64 - 1):
                amount = f"{number:b}"
                places = min(number, width)
                self.assertEqual(logic.shift_left(vector, amount), (vector + "0" * places)[-width:])
                self.assertEqual(logic.shift_right(vector, amount), ("0" * places + vector)[:width])

    def test_amounts_that_are_not_known(self):
        for amount in ("x", "z", "0x", "z1"):
            self.assertEqual(logic.shift_left("010", amount), "xxx")
            self.assertEqual(logic.shift_right("010", amount), "xxx")

    def test_the_first_operand_is_not_extended(self):
        self.assertEqual(logic.shift_left("1", "0001"), "0")
        self.assertEqual(logic.shift_right("zx", "00000"), "zx")

    def test_the_example_of_the_document(self):
        self.assertEqual(logic.shift_right("1x01", "10"), "001x")


class ChoiceTest(unittest.TestCase):
    def test_each_condition_and_pair(self):
        for condition in up_to(2):
            for one in up_to(2):
                for two in up_to(2):
                    left, right = extended(one, two)
                    both = "".join(a if a == b and a in "01" else "x" for a, b in zip(left, right))
                    expected = {"1": left, "0": right, "x": both}[logic.truth(condition)]
                    self.assertEqual(logic.choose(condition, one, two), expected)

    def test_chosen_characters_do_not_change(self):
        self.assertEqual(logic.choose("x1", "zx", "0"), "zx")
        self.assertEqual(logic.choose("00", "0", "zx"), "zx")

    def test_width_64(self):
        self.assertEqual(logic.choose("z", "1" * 64, "1"), "x" * 63 + "1")
        self.assertEqual(logic.choose("1", "1", "0" * 64), "0" * 63 + "1")

    def test_the_example_of_the_document(self):
        self.assertEqual(logic.choose("x", "1010", "1001"), "10xx")


class SelectionTest(unittest.TestCase):
    def test_pick(self):
        for vector in ("1", "z", "01xz", "x" + "0" * 62 + "1"):
            for index in (0, 1, 2, 3, 4, 63, 64, 2 ** 64 - 1):
                expected = vector[::-1][index] if index < len(vector) else "0"
                self.assertEqual(logic.pick(vector, f"{index:b}"), expected)

    def test_pick_at_an_index_that_is_not_known(self):
        for index in ("x", "z", "0x", "1z"):
            self.assertEqual(logic.pick("1", index), "x")

    def test_part(self):
        self.assertEqual(logic.part("01xz", high=3, low=0), "01xz")
        self.assertEqual(logic.part("01xz", high=2, low=1), "1x")
        self.assertEqual(logic.part("01xz", high=0, low=0), "z")
        self.assertEqual(logic.part("01xz", high=3, low=3), "0")
        self.assertEqual(logic.part("1" + "0" * 63, high=63, low=62), "10")

    def test_part_out_of_range(self):
        for high, low in ((4, 0), (1, 2), (0, -1), (-1, -1), (-1, 0), (64, 64)):
            self.assertEqual(failure(logic.part, "01xz", high=high, low=low), ("Width", high))

    def test_join(self):
        self.assertEqual(logic.join(["0", "1x", "z"]), "01xz")
        self.assertEqual(logic.join(("x",)), "x")
        self.assertEqual(logic.join(["1" * 32, "z" * 32]), "1" * 32 + "z" * 32)

    def test_join_out_of_range(self):
        self.assertEqual(failure(logic.join, []), ("Width", 0))
        self.assertEqual(failure(logic.join, ()), ("Width", 0))
        self.assertEqual(failure(logic.join, ["1" * 64, "0"]), ("Width", 65))
        self.assertEqual(failure(logic.join, ["1" * 64] * 3), ("Width", 192))

    def test_join_does_not_change_its_list(self):
        parts = ["0", "1"]
        logic.join(parts)
        self.assertEqual(parts, ["0", "1"])


class InformationTest(unittest.TestCase):
    @staticmethod
    def refinements(width):
        return [(one, two) for one in vectors(width) for two in vectors(width) if logic.is_refined(one, two)]

    def test_unary_operators(self):
        for one, finer in self.refinements(1) + self.refinements(2) + self.refinements(3):
            for operator in UNARY:
                self.assertTrue(logic.is_refined(operator(one), operator(finer)), (operator, one, finer))

    def test_binary_operators(self):
        for first, second in ((1, 1), (1, 2), (2, 1), (2, 2)):
            for one, finer_one in self.refinements(first):
                for two, finer_two in self.refinements(second):
                    for operator in BINARY:
                        result = operator(one, two)
                        self.assertTrue(logic.is_refined(result, operator(finer_one, finer_two)))

    def test_choose(self):
        for condition, finer in self.refinements(1):
            for one, finer_one in self.refinements(2):
                for two, finer_two in self.refinements(1):
                    result = logic.choose(condition, one, two)
                    self.assertTrue(logic.is_refined(result, logic.choose(finer, finer_one, finer_two)))

    def test_resize_part_and_join(self):
        for one, finer in self.refinements(3):
            for width in (1, 2, 3, 5):
                self.assertTrue(logic.is_refined(logic.resize(one, width=width), logic.resize(finer, width=width)))
            pair = logic.part(one, high=2, low=1), logic.part(finer, high=2, low=1)
            self.assertTrue(logic.is_refined(*pair))
            self.assertTrue(logic.is_refined(logic.join([one, "x"]), logic.join([finer, "1"])))


if __name__ == "__main__":
    unittest.main()
