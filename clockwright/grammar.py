"""Reading expressions and targets at a cursor."""

from clockwright.errors import Unbounded
from clockwright.tree import depth
from clockwright.widths import literal

MAX_LEVEL = 20
MAX_DEPTH = 30
LOOSEST_RANK = 11

UNARY = {"~": "not", "-": "neg", "&": "redand", "|": "redor", "^": "redxor", "!": "lnot"}

# For each binary operator its rank (a smaller one binds tighter), its head,
# and whether the operands change places in the tree.
BINARY = {
    "*": (2, "mul", False),
    "+": (3, "add", False),
    "-": (3, "sub", False),
    "<<": (4, "shl", False),
    ">>": (4, "shr", False),
    "<": (5, "lt", False),
    "<=": (5, "le", False),
    ">": (5, "lt", True),
    ">=": (5, "le", True),
    "==": (6, "eq", False),
    "!=": (6, "ne", False),
    "===": (6, "same", False),
    "&": (7, "and", False),
    "^": (8, "xor", False),
    "|": (9, "or", False),
    "&&": (10, "land", False),
    "||": (11, "lor", False),
}


def check_level(level):
    """Refuse a part that would start at too great a level."""
    if level > MAX_LEVEL:
        raise Unbounded("depth")


def _complete(tree):
    """Return a complete expression, unless it is too deep."""
    if depth(tree) > MAX_DEPTH:
        raise Unbounded("depth")
    return tree


def read_expression(cursor, level):
    """Read an expression of this level."""
    check_level(level)
    tree = _read_binary(cursor, level)
    if not cursor.take_sign("?"):
        return tree
    one = read_expression(cursor, level + 1)
    cursor.need_sign(":")
    two = read_expression(cursor, level + 1)
    return _complete(("mux", tree, one, two))


def _read_binary(cursor, level):
    # Operators wait on a stack until a looser one, or none, follows: so that
    # the twelve lines of the grammar do not need twelve nested calls.
    operands = [_read_unary(cursor, level)]
    waiting = []
    while cursor.next_sign() in BINARY:
        _combine(operands, waiting, BINARY[cursor.next_sign()][0])
        waiting.append(cursor.step())
        operands.append(_read_unary(cursor, level))
    _combine(operands, waiting, LOOSEST_RANK)
    return operands[0]


def _combine(operands, waiting, rank):
    """Build the trees of the waiting operators that bind at least as tight as the rank."""
    while waiting and BINARY[waiting[-1]][0] <= rank:
        _, head, swapped = BINARY[waiting.pop()]
        two = operands.pop()
        one = operands.pop()
        operands.append(_complete((head, two, one) if swapped else (head, one, two)))


def _read_unary(cursor, level):
    if cursor.next_sign() not in UNARY:
        return _read_primary(cursor, level)
    head = UNARY[cursor.step()]
    check_level(level + 1)
    return _complete((head, _read_unary(cursor, level + 1)))


def _read_primary(cursor, level):
    if cursor.next_kind() == "number":
        return literal(cursor.step())
    if cursor.next_kind() == "vector":
        return ("lit", cursor.step())
    if cursor.next_kind() == "name":
        return _read_named(cursor, level)
    if cursor.take_sign("("):
        tree = read_expression(cursor, level + 1)
        cursor.need_sign(")")
        return tree
    cursor.need_sign("{")
    return _read_braces(cursor, level)


def _read_named(cursor, level):
    name = cursor.step()
    if cursor.take_sign("["):
        return _complete(_read_brackets(cursor, level, name))
    if cursor.take_sign("("):
        first = read_expression(cursor, level + 1)
        arguments = _read_more_expressions(cursor, level, first)
        cursor.need_sign(")")
        return _complete(("call", name, arguments))
    return ("ref", name)


def _read_brackets(cursor, level, name):
    """Read what stands behind an opening bracket."""
    high = read_expression(cursor, level + 1)
    if not cursor.take_sign(":"):
        cursor.need_sign("]")
        return ("pick", name, high)
    low = read_expression(cursor, level + 1)
    cursor.need_sign("]")
    return ("part", name, high, low)


def _read_more_expressions(cursor, level, first):
    found = [first]
    while cursor.take_sign(","):
        found.append(read_expression(cursor, level + 1))
    return tuple(found)


def _read_braces(cursor, level):
    """Read what stands behind an opening brace of an expression."""
    first = read_expression(cursor, level + 1)
    if cursor.take_sign(":"):
        operand = read_expression(cursor, level + 1)
        cursor.need_sign("}")
        return _complete(("rep", first, operand))
    parts = _read_more_expressions(cursor, level, first)
    cursor.need_sign("}")
    return _complete(("cat", parts))


def read_target(cursor, level):
    """Read a target of this level."""
    check_level(level)
    if cursor.take_sign("{"):
        targets = [read_target(cursor, level + 1)]
        while cursor.take_sign(","):
            targets.append(read_target(cursor, level + 1))
        cursor.need_sign("}")
        return ("cat", tuple(targets))
    name = cursor.need_name()
    if cursor.take_sign("["):
        return _read_brackets(cursor, level, name)
    return ("ref", name)
