"""Vectors of 1 to 64 four-valued bits, and their operators."""

from clockwright.errors import Misused, Width

MAX_WIDTH = 64

AND_BITS = {
    "00": "0", "01": "0", "0x": "0", "0z": "0",
    "10": "0", "11": "1", "1x": "x", "1z": "x",
    "x0": "0", "x1": "x", "xx": "x", "xz": "x",
    "z0": "0", "z1": "x", "zx": "x", "zz": "x",
}

OR_BITS = {
    "00": "0", "01": "1", "0x": "x", "0z": "x",
    "10": "1", "11": "1", "1x": "1", "1z": "1",
    "x0": "x", "x1": "1", "xx": "x", "xz": "x",
    "z0": "x", "z1": "1", "zx": "x", "zz": "x",
}

XOR_BITS = {
    "00": "0", "01": "1", "0x": "x", "0z": "x",
    "10": "1", "11": "0", "1x": "x", "1z": "x",
    "x0": "x", "x1": "x", "xx": "x", "xz": "x",
    "z0": "x", "z1": "x", "zx": "x", "zz": "x",
}

NOT_BITS = {"0": "1", "1": "0", "x": "x", "z": "x"}


def _consists_of(text, characters):
    return all(character in characters for character in text)


def _check_width(width):
    if not 1 <= width <= MAX_WIDTH:
        raise Width(width)


def _extended(vector, width):
    return "0" * (width - len(vector)) + vector


def _both_extended(one, two):
    width = max(len(one), len(two))
    return (_extended(one, width), _extended(two, width))


def _low_bits(number, width):
    return f"{number & ((1 << width) - 1):b}".zfill(width)


def _bit(holds):
    return "1" if holds else "0"


def is_vector(value):
    """Tell whether a value of any kind is a vector."""
    return isinstance(value, str) and 1 <= len(value) <= MAX_WIDTH and _consists_of(value, "01xz")


def is_known(vector):
    """Tell whether all bits are 0 or 1."""
    return _consists_of(vector, "01")


def is_refined(vector, other):
    """Tell whether the other vector keeps every known bit of the vector."""
    if len(vector) != len(other):
        return False
    return all(bit not in "01" or bit == finer for bit, finer in zip(vector, other))


def to_number(vector):
    """Return the value of a known vector."""
    if not is_known(vector):
        raise Misused(vector)
    return int(vector, 2)


def from_number(number, *, width):
    """Return the vector of this width for the number, modulo 2 to the power of the width."""
    _check_width(width)
    return _low_bits(number, width)


def least_width(number):
    """Return the least width that holds a number which is not negative."""
    return max(1, number.bit_length())


def resize(vector, *, width):
    """Extend or cut a vector at its front."""
    _check_width(width)
    if width < len(vector):
        return vector[len(vector) - width:]
    return _extended(vector, width)


def bit_not(vector):
    """Invert each bit."""
    return "".join([NOT_BITS[bit] for bit in vector])


def bit_and(one, two):
    """Combine each pair of bits by and."""
    left, right = _both_extended(one, two)
    return "".join([AND_BITS[a + b] for a, b in zip(left, right)])


def bit_or(one, two):
    """Combine each pair of bits by or."""
    left, right = _both_extended(one, two)
    return "".join([OR_BITS[a + b] for a, b in zip(left, right)])


def bit_xor(one, two):
    """Combine each pair of bits by xor."""
    left, right = _both_extended(one, two)
    return "".join([XOR_BITS[a + b] for a, b in zip(left, right)])


def reduce_and(vector):
    """Combine all bits of a vector by and."""
    # 1 is neutral for and, and turns z into x, also in a vector of width 1
    result = "1"
    for bit in vector:
        result = AND_BITS[result + bit]
    return result


def reduce_or(vector):
    """Combine all bits of a vector by or."""
    result = "0"
    for bit in vector:
        result = OR_BITS[result + bit]
    return result


def reduce_xor(vector):
    """Combine all bits of a vector by xor."""
    result = "0"
    for bit in vector:
        result = XOR_BITS[result + bit]
    return result


def _both_known(one, two):
    return is_known(one) and is_known(two)


def negate(vector):
    """Return 0 minus the operand, in the width of the operand."""
    return subtract("0", vector)


def add(one, two):
    """Return the sum, modulo 2 to the power of the width."""
    width = max(len(one), len(two))
    if not _both_known(one, two):
        return "x" * width
    return _low_bits(int(one, 2) + int(two, 2), width)


def subtract(one, two):
    """Return the difference, modulo 2 to the power of the width."""
    width = max(len(one), len(two))
    if not _both_known(one, two):
        return "x" * width
    return _low_bits(int(one, 2) - int(two, 2), width)


def multiply(one, two):
    """Return the product, modulo 2 to the power of the width."""
    width = max(len(one), len(two))
    if not _both_known(one, two):
        return "x" * width
    return _low_bits(int(one, 2) * int(two, 2), width)


def less(one, two):
    """Tell by a bit whether the first value is less than the second one."""
    if not _both_known(one, two):
        return "x"
    return _bit(int(one, 2) < int(two, 2))


def less_equal(one, two):
    """Tell by a bit whether the first value is not greater than the second one."""
    if not _both_known(one, two):
        return "x"
    return _bit(int(one, 2) <= int(two, 2))


def equal(one, two):
    """Tell by a bit whether the values are equal."""
    if not _both_known(one, two):
        return "x"
    return _bit(int(one, 2) == int(two, 2))


def not_equal(one, two):
    """Tell by a bit whether the values differ."""
    return bit_not(equal(one, two))


def same(one, two):
    """Tell by a known bit whether the extended vectors have the same characters."""
    left, right = _both_extended(one, two)
    return _bit(left == right)


def truth(vector):
    """Return 1 if a bit is 1, 0 if all bits are 0, and x otherwise."""
    return reduce_or(vector)


def logic_not(vector):
    """Invert the truth."""
    return bit_not(truth(vector))


def logic_and(one, two):
    """Combine the truths by and."""
    return bit_and(truth(one), truth(two))


def logic_or(one, two):
    """Combine the truths by or."""
    return bit_or(truth(one), truth(two))


def shift_left(vector, amount):
    """Move the bits towards the front by the value of the amount."""
    width = len(vector)
    if not is_known(amount):
        return "x" * width
    places = min(int(amount, 2), width)
    return vector[places:] + "0" * places


def shift_right(vector, amount):
    """Move the bits towards the end by the value of the amount."""
    width = len(vector)
    if not is_known(amount):
        return "x" * width
    places = min(int(amount, 2), width)
    return "0" * places + vector[:width - places]


def _agreed_bit(a, b):
    return a if a == b and a in "01" else "x"


def choose(condition, one, two):
    """Return the first operand if the condition is true, and the second one if it is false."""
    left, right = _both_extended(one, two)
    decision = truth(condition)
    if decision == "1":
        return left
    if decision == "0":
        return right
    return "".join([_agreed_bit(a, b) for a, b in zip(left, right)])


def pick(vector, index):
    """Return the bit that an index vector tells."""
    if not is_known(index):
        return "x"
    place = int(index, 2)
    if place >= len(vector):
        return "0"
    return vector[len(vector) - 1 - place]


def part(vector, *, high, low):
    """Return the bits from high down to low."""
    width = len(vector)
    if not 0 <= low <= high < width:
        raise Width(high)
    return vector[width - 1 - high:width - low]


def join(vectors):
    """Return the concatenation of the vectors, the first one in front."""
    whole = "".join(vectors)
    _check_width(len(whole))
    return whole
