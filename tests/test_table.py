import itertools
import random
import unittest

from clockwright.table import cofactor, complement, connect, full, shrink, support, value_at, variable


def function_of(table, count):
    """A table as a function of the values of the variables."""
    return lambda *values: table >> sum(bit << index for index, bit in enumerate(values)) & 1


def table_of(function, count):
    """The table of a function of the values of the variables."""
    found = 0
    for row in range(2 ** count):
        found += function(*[row // 2 ** index % 2 for index in range(count)]) * 2 ** row
    return found


def tables():
    """Pairs (table, count): all of up to two variables, and drawn ones of three and four."""
    found = [(table, count) for count in range(3) for table in range(2 ** 2 ** count)]
    drawn = random.Random(1)
    for count in (3, 4):
        found += [(drawn.randrange(2 ** 2 ** count), count) for _ in range(40)]
        found += [(0, count), (2 ** 2 ** count - 1, count)]
        for index in range(count):
            found += [(table_of(lambda *values: values[index], count), count)]
            found += [(table_of(lambda *values: values[index] ^ values[0] ^ 1, count), count)]
    return found


class TablesTest(unittest.TestCase):
    def test_the_examples(self):
        self.assertEqual(variable(1, 2), 12)
        self.assertEqual(cofactor(8, 2, 0, 1), 12)
        self.assertEqual(connect(8, [3, 0], 2), 2)
        self.assertEqual(shrink(12, 2), ([1], 2))

    def test_full(self):
        self.assertEqual([full(count) for count in range(5)], [1, 3, 15, 255, 65535])

    def test_variable(self):
        self.assertEqual([[variable(index, count) for index in range(count)] for count in range(5)],
                         [[], [2], [10, 12], [170, 204, 240], [43690, 52428, 61680, 65280]])

    def test_value_at(self):
        self.assertEqual([value_at(13, row) for row in range(4)], [1, 0, 1, 1])
        self.assertEqual((value_at(0, 0), value_at(1, 0)), (0, 1))
        self.assertEqual([value_at(32768, row) for row in (0, 14, 15)], [0, 0, 1])

    def test_complement(self):
        for table, count in tables():
            found = complement(table, count)
            for row in range(2 ** count):
                self.assertEqual(value_at(found, row), 1 - value_at(table, row))
            self.assertLess(found, 2 ** 2 ** count)

    def test_cofactor(self):
        for table, count in tables():
            function = function_of(table, count)
            for index in range(count):
                for bit in (0, 1):
                    fixed = table_of(lambda *values: function(*values[:index], bit, *values[index + 1:]), count)
                    self.assertEqual(cofactor(table, count, index, bit), fixed)

    def test_support(self):
        for table, count in tables():
            needed = []
            for index in range(count):
                pairs = [(row, row ^ 2 ** index) for row in range(2 ** count)]
                if any(value_at(table, one) != value_at(table, two) for one, two in pairs):
                    needed.append(index)
            self.assertEqual(support(table, count), needed)
        self.assertEqual((support(0, 0), support(1, 0), support(6, 2), support(12, 2)), ([], [], [0, 1], [1]))


class ConnectTest(unittest.TestCase):
    def check(self, table, literals, count):
        function = function_of(table, len(literals))
        given = list(literals)
        expected = table_of(lambda *values: function(*[values[each // 2] ^ each % 2 for each in literals]), count)
        self.assertEqual(connect(table, literals, count), expected, (table, literals, count))
        self.assertEqual(literals, given)

    def test_all_literals_of_small_tables(self):
        for count in range(1, 4):
            for many in range(3):
                for literals in itertools.product(range(2 * count), repeat=many):
                    for table in range(2 ** 2 ** many):
                        self.check(table, list(literals), count)

    def test_drawn_literals(self):
        drawn = random.Random(2)
        for table, many in tables():
            for count in range(1, 5):
                self.check(table, [drawn.randrange(2 * count) for _ in range(many)], count)

    def test_a_variable_in_several_literals(self):
        self.assertEqual(connect(8, [0, 0], 1), 2)
        self.assertEqual(connect(8, [0, 1], 1), 0)
        self.assertEqual(connect(6, [2, 3, ], 2), 15)

    def test_inverted_literals(self):
        self.assertEqual(connect(2, [1], 1), 1)
        self.assertEqual(connect(8, [1, 3], 2), 1)
        self.assertEqual(connect(8, [7, 0], 4), connect(8, [0, 7], 4))

    def test_no_variables(self):
        self.assertEqual((connect(0, [], 0), connect(1, [], 0), connect(1, [], 2), connect(0, [], 3)), (0, 1, 15, 0))


class ShrinkTest(unittest.TestCase):
    def test_shrink_and_back(self):
        for table, count in tables():
            needed, small = shrink(table, count)
            self.assertEqual(needed, support(table, count))
            self.assertLess(small, 2 ** 2 ** len(needed))
            self.assertEqual(connect(small, [2 * index for index in needed], count), table)
            self.assertEqual(shrink(small, len(needed)), (list(range(len(needed))), small))

    def test_edges(self):
        self.assertEqual((shrink(0, 0), shrink(1, 0)), (([], 0), ([], 1)))
        self.assertEqual((shrink(0, 4), shrink(65535, 4)), (([], 0), ([], 1)))
        self.assertEqual(shrink(0xFF00, 4), ([3], 2))
        self.assertEqual(shrink(0x00FF, 4), ([3], 1))


if __name__ == "__main__":
    unittest.main()
