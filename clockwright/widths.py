"""Constant expressions, and the widths of expressions of a flat design."""

from clockwright.errors import Misused, Unknown, Width
from clockwright.logic import from_number, is_known, least_width, to_number

MAX_WIDTH = 64
MAX_SHIFT = 63

BINARY = (
    "add", "sub", "mul", "shl", "shr", "and", "or", "xor",
    "lt", "le", "eq", "ne", "land", "lor",
)

ONE_BIT = ("redand", "redor", "redxor", "lnot", "lt", "le", "eq", "ne", "same", "land", "lor")


def _bounded(number):
    if not 0 <= number < 2 ** 64:
        raise Width("constant")
    return number


def _shifted(head, one, two):
    if two > MAX_SHIFT:
        raise Width("constant")
    return one << two if head == "shl" else one >> two


def _calculated(head, one, two):
    if head == "add":
        return one + two
    if head == "sub":
        return one - two
    if head == "mul":
        return one * two
    if head == "and":
        return one & two
    if head == "or":
        return one | two
    if head == "xor":
        return one ^ two
    return _shifted(head, one, two)


def _related(head, one, two):
    if head == "lt":
        return one < two
    if head == "le":
        return one <= two
    if head == "eq":
        return one == two
    if head == "ne":
        return one != two
    if head == "land":
        return one != 0 and two != 0
    return one != 0 or two != 0


def _binary_constant(expression, table):
    head = expression[0]
    one = constant(expression[1], table=table)
    two = constant(expression[2], table=table)
    if head in ONE_BIT:
        return 1 if _related(head, one, two) else 0
    return _bounded(_calculated(head, one, two))


def _chosen_constant(expression, table):
    condition = constant(expression[1], table=table)
    one = constant(expression[2], table=table)
    two = constant(expression[3], table=table)
    return one if condition != 0 else two


def constant(expression, *, table):
    """Return the value of a constant expression, with the names of constants in the table."""
    head = expression[0]
    if head == "lit":
        if not is_known(expression[1]):
            raise Misused("constant")
        return to_number(expression[1])
    if head == "ref":
        if expression[1] not in table:
            raise Unknown(expression[1])
        return _bounded(table[expression[1]])
    if head == "lnot":
        return 1 if constant(expression[1], table=table) == 0 else 0
    if head == "mux":
        return _chosen_constant(expression, table)
    if head not in BINARY:
        raise Misused("constant")
    return _binary_constant(expression, table)


def is_constant(expression, *, table):
    """Tell whether a constant expression has a value."""
    try:
        constant(expression, table=table)
    except (Misused, Unknown, Width):
        return False
    return True


def literal(number):
    """Return the literal of a number, with the least width that holds it."""
    return ("lit", from_number(number, width=least_width(number)))


def _checked(width):
    if width > MAX_WIDTH:
        raise Width(width)
    return width


def _width_of_name(name, table):
    if name not in table:
        raise Unknown(name)
    return table[name]


def _widths_of_all(expressions, widths, functions):
    return [width_of(part, widths=widths, functions=functions) for part in expressions]


def _width_of_named(expression, widths, functions):
    head = expression[0]
    if head == "call":
        width = _width_of_name(expression[1], functions)
        _widths_of_all(expression[2], widths, functions)
        return width
    width = _width_of_name(expression[1], widths)
    if head == "pick":
        width_of(expression[2], widths=widths, functions=functions)
        return 1
    if head == "part":
        return expression[2] - expression[3] + 1
    return width


def _width_of_operator(expression, widths, functions):
    head = expression[0]
    parts = _widths_of_all(expression[1:], widths, functions)
    if head in ONE_BIT:
        return 1
    if head in ("not", "neg", "shl", "shr"):
        return parts[0]
    return max(parts[-2:])


def width_of(expression, *, widths, functions):
    """Return the width of an expression or a target of a flat design."""
    head = expression[0]
    if head == "lit":
        return len(expression[1])
    if head in ("ref", "pick", "part", "call"):
        return _width_of_named(expression, widths, functions)
    if head == "cat":
        return _checked(sum(_widths_of_all(expression[1], widths, functions)))
    if head == "rep":
        return _checked(expression[1] * width_of(expression[2], widths=widths, functions=functions))
    return _width_of_operator(expression, widths, functions)
