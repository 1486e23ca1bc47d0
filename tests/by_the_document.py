"""The circuits of points CI2 to CI7, written word by word as the document has them."""


class Reference:
    """Builds in a graph; bits are lists of literals with the least significant one first."""

    def __init__(self, graph):
        self.graph = graph

    def fold(self, operation, literals):
        result = literals[0]
        for index in range(1, len(literals)):
            result = operation(result, literals[index])
        return result

    def add_with(self, a, b, carry):
        found = [None] * len(a)
        for index in range(len(a)):
            half = self.graph.exclusive(a[index], b[index])
            found[index] = self.graph.exclusive(half, carry)
            if index != len(a) - 1:
                first = self.graph.conjunction(a[index], b[index])
                second = self.graph.conjunction(half, carry)
                carry = self.graph.disjunction(first, second)
        return found

    def add_bits(self, a, b):
        return self.add_with(a, b, 0)

    def subtract_bits(self, a, b):
        return self.add_with(a, [literal ^ 1 for literal in b], 1)

    def negate_bits(self, a):
        return self.subtract_bits([0 for _ in a], a)

    def multiply_bits(self, a, b):
        product = [0 for _ in a]
        for i in range(len(a)):
            row = []
            for k in range(len(a)):
                row.append(0 if k < i else self.graph.conjunction(a[k - i], b[i]))
            product = self.add_bits(product, row)
        return product

    def less_than(self, a, b):
        result = 0
        for index in range(len(a)):
            result = self.graph.choice(self.graph.exclusive(a[index], b[index]), b[index], result)
        return result

    def less_or_equal(self, a, b):
        return self.less_than(b, a) ^ 1

    def equal_bits(self, a, b):
        equals = []
        for index in range(len(a)):
            equals.append(self.graph.exclusive(a[index], b[index]) ^ 1)
        return self.fold(self.graph.conjunction, equals)

    def shifted(self, a, n, sign):
        now = list(a)
        for i in range(len(n)):
            old = list(now)
            for k in range(len(a)):
                source = k - sign * 2 ** i
                moved = old[source] if 0 <= source < len(a) else 0
                now[k] = self.graph.choice(n[i], moved, old[k])
        return now

    def shift_left(self, a, n):
        return self.shifted(a, n, 1)

    def shift_right(self, a, n):
        return self.shifted(a, n, -1)

    def reduce_and(self, a):
        return self.fold(self.graph.conjunction, a)

    def reduce_or(self, a):
        return self.fold(self.graph.disjunction, a)

    def reduce_xor(self, a):
        return self.fold(self.graph.exclusive, a)

    def choose_bits(self, c, a, b):
        return [self.graph.choice(c, a[index], b[index]) for index in range(len(a))]

    def pick_bit(self, bits, index):
        values = list(bits)
        for bit in index:
            following = []
            k = 0
            while 2 * k < len(values):
                odd = values[2 * k + 1] if 2 * k + 1 < len(values) else 0
                following.append(self.graph.choice(bit, odd, values[2 * k]))
                k += 1
            values = following
        return values[0]

    def store_bit(self, bits, index, bit):
        found = []
        for k in range(len(bits)):
            digits = f"{k:b}"[::-1]
            if len(digits) > len(index) and k > 0:
                found.append(bits[k])
                continue
            digits = digits.ljust(len(index), "0")
            literals = [index[place] ^ (digits[place] == "0") for place in range(len(index))]
            here = self.fold(self.graph.conjunction, literals)
            found.append(self.graph.choice(here, bit, bits[k]))
        return found
