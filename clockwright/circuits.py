"""Circuits of expressions: lists of literals, with the least significant bit first."""

from clockwright.errors import Latched, Unbuildable
from clockwright.graph import negated
from clockwright.logic import is_known


def text_bits(vector):
    """Return the literals 0 and 1 of a known vector."""
    if not is_known(vector):
        raise Unbuildable("lit")
    return [int(bit) for bit in reversed(vector)]


def fit(bits, width):
    """Extend bits with zeros, or cut them."""
    return bits[:width] + [0] * (width - len(bits))


def _same_width(a, b):
    width = max(len(a), len(b))
    return (fit(a, width), fit(b, width))


def _inverted(bits):
    return [negated(bit) for bit in bits]


def _sum_bits(graph, a, b, carry):
    bits = []
    for index in range(len(a)):
        half = graph.exclusive(a[index], b[index])
        bits.append(graph.exclusive(half, carry))
        # the last carry has no reader, so it is not built
        if index + 1 < len(a):
            both = graph.conjunction(a[index], b[index])
            carry = graph.disjunction(both, graph.conjunction(half, carry))
    return bits


def add_bits(graph, a, b):
    """Return the bits of the sum."""
    return _sum_bits(graph, a, b, 0)


def subtract_bits(graph, a, b):
    """Return the bits of the difference."""
    return _sum_bits(graph, a, _inverted(b), 1)


def negate_bits(graph, a):
    """Return the bits of 0 minus the operand."""
    return subtract_bits(graph, [0] * len(a), a)


def multiply_bits(graph, a, b):
    """Return the bits of the product."""
    width = len(a)
    product = [0] * width
    for place in range(width):
        row = [0] * place + [graph.conjunction(bit, b[place]) for bit in a[:width - place]]
        product = add_bits(graph, product, row)
    return product


def less_than(graph, a, b):
    """Return a literal that tells whether a is less than b."""
    result = 0
    for one, two in zip(a, b):
        differ = graph.exclusive(one, two)
        result = graph.choice(differ, two, result)
    return result


def less_or_equal(graph, a, b):
    """Return a literal that tells whether a is not greater than b."""
    return negated(less_than(graph, b, a))


def equal_bits(graph, a, b):
    """Return a literal that tells whether a equals b."""
    return reduce_and(graph, [negated(graph.exclusive(one, two)) for one, two in zip(a, b)])


def shift_left(graph, a, n):
    """Return the bits of a, moved to the more significant side by n."""
    bits = list(a)
    width = len(a)
    for index, literal in enumerate(n):
        places = min(1 << index, width)
        shifted = [0] * places + bits[:width - places]
        bits = choose_bits(graph, literal, shifted, bits)
    return bits


def shift_right(graph, a, n):
    """Return the bits of a, moved to the less significant side by n."""
    bits = list(a)
    width = len(a)
    for index, literal in enumerate(n):
        places = min(1 << index, width)
        shifted = bits[places:] + [0] * places
        bits = choose_bits(graph, literal, shifted, bits)
    return bits


def reduce_and(graph, a):
    """Return a literal for the conjunction of all bits."""
    result = a[0]
    for bit in a[1:]:
        result = graph.conjunction(result, bit)
    return result


def reduce_or(graph, a):
    """Return a literal for the disjunction of all bits, which is their truth."""
    result = a[0]
    for bit in a[1:]:
        result = graph.disjunction(result, bit)
    return result


def reduce_xor(graph, a):
    """Return a literal for the exclusive or of all bits."""
    result = a[0]
    for bit in a[1:]:
        result = graph.exclusive(result, bit)
    return result


def choose_bits(graph, c, a, b):
    """Return the bits of a if c is 1, and those of b if c is 0."""
    return [graph.choice(c, one, two) for one, two in zip(a, b)]


def pick_bit(graph, bits, index):
    """Return a literal for the bit that the index tells, 0 if there is none."""
    found = list(bits)
    for literal in index:
        even = found[::2]
        odd = fit(found[1::2], len(even))
        found = choose_bits(graph, literal, odd, even)
    return found[0]


def store_bit(graph, bits, index, bit):
    """Return the bits with a new one at the place that the index tells."""
    result = []
    for place, old in enumerate(bits):
        if place >> len(index) != 0:
            result.append(old)
            continue
        digits = [literal if (place >> digit) & 1 else negated(literal) for digit, literal in enumerate(index)]
        here = reduce_and(graph, digits)
        result.append(graph.choice(here, bit, old))
    return result


def _and_bits(graph, a, b):
    return [graph.conjunction(one, two) for one, two in zip(a, b)]


def _or_bits(graph, a, b):
    return [graph.disjunction(one, two) for one, two in zip(a, b)]


def _xor_bits(graph, a, b):
    return [graph.exclusive(one, two) for one, two in zip(a, b)]


def _unequal(graph, a, b):
    return negated(equal_bits(graph, a, b))


def _with_values(name, bits):
    """Return the bits of a name, all of which must have a value."""
    if None in bits:
        raise Latched(name)
    return list(bits)


def _bits_of_pick(graph, expression, env, caller):
    _, name, index = expression
    if index[0] != "lit":
        places = expression_bits(graph, index, env, caller)
        return [pick_bit(graph, _with_values(name, env[name]), places)]
    if not is_known(index[1]):
        raise Unbuildable("lit")
    place = int(index[1], 2)
    return fit(_with_values(name, env[name][place:place + 1]), 1)


def _bits_of_name(graph, expression, env, caller):
    head, name = expression[:2]
    if head == "pick":
        return _bits_of_pick(graph, expression, env, caller)
    if head == "part":
        return _with_values(name, env[name][expression[3]:expression[2] + 1])
    return _with_values(name, env[name])


def _bits_of_each(graph, expressions, env, caller):
    return [expression_bits(graph, expression, env, caller) for expression in expressions]


def _joined(operands):
    """Return the bits of a cat, whose first operand has the most significant bits."""
    bits = []
    for operand in reversed(operands):
        bits.extend(operand)
    return bits


def _bits_of_one(graph, head, a):
    if head == "not":
        return _inverted(a)
    if head == "neg":
        return negate_bits(graph, a)
    if head == "lnot":
        return [negated(reduce_or(graph, a))]
    action = REDUCTIONS[head]
    return [action(graph, a)]


def _bits_of_two(graph, head, a, b):
    if head in SHIFTS:
        action = SHIFTS[head]
        return action(graph, a, b)
    if head in ("land", "lor"):
        one = reduce_or(graph, a)
        two = reduce_or(graph, b)
        return [graph.conjunction(one, two) if head == "land" else graph.disjunction(one, two)]
    one, two = _same_width(a, b)
    if head in RELATIONS:
        action = RELATIONS[head]
        return [action(graph, one, two)]
    action = WIDE[head]
    return action(graph, one, two)


def _bits_of_operator(graph, head, operands):
    if len(operands) == 1:
        return _bits_of_one(graph, head, operands[0])
    if len(operands) == 2:
        return _bits_of_two(graph, head, operands[0], operands[1])
    condition = reduce_or(graph, operands[0])
    one, two = _same_width(operands[1], operands[2])
    return choose_bits(graph, condition, one, two)


def expression_bits(graph, expression, env, caller):
    """Return the bits of an expression of a flat design."""
    head = expression[0]
    if head == "lit":
        return text_bits(expression[1])
    if head == "same":
        raise Unbuildable("same")
    if head in ("ref", "pick", "part"):
        return _bits_of_name(graph, expression, env, caller)
    if head == "cat":
        return _joined(_bits_of_each(graph, expression[1], env, caller))
    if head == "rep":
        return expression_bits(graph, expression[2], env, caller) * expression[1]
    if head == "call":
        arguments = _bits_of_each(graph, expression[2], env, caller)
        return caller.call(expression[1], arguments)
    return _bits_of_operator(graph, head, _bits_of_each(graph, expression[1:], env, caller))


REDUCTIONS = {"redand": reduce_and, "redor": reduce_or, "redxor": reduce_xor}
SHIFTS = {"shl": shift_left, "shr": shift_right}
RELATIONS = {"lt": less_than, "le": less_or_equal, "eq": equal_bits, "ne": _unequal}
WIDE = {
    "and": _and_bits, "or": _or_bits, "xor": _xor_bits,
    "add": add_bits, "sub": subtract_bits, "mul": multiply_bits,
}
