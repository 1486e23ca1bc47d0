"""Texts of expressions, targets, statements and units.

An expression is shown as a triple: its text, the rank of its operator (a
smaller one binds tighter) and the number of levels that the text needs. Each
pair of parentheses costs a level, and levels are limited, so that there are
no parentheses that are not needed.
"""

from clockwright.logic import from_number, is_known, least_width, to_number

STEP = "  "

UNARY_SIGNS = {"not": "~", "neg": "-", "redand": "&", "redor": "|", "redxor": "^", "lnot": "!"}

BINARY_SIGNS = {
    "mul": (2, "*"),
    "add": (3, "+"),
    "sub": (3, "-"),
    "shl": (4, "<<"),
    "shr": (4, ">>"),
    "lt": (5, "<"),
    "le": (5, "<="),
    "eq": (6, "=="),
    "ne": (6, "!="),
    "same": (6, "==="),
    "and": (7, "&"),
    "xor": (8, "^"),
    "or": (9, "|"),
    "land": (10, "&&"),
    "lor": (11, "||"),
}

SWAPPED_SIGNS = {"lt": ">", "le": ">="}

PRIMARY_RANK = 0
UNARY_RANK = 1
LAST_BINARY_RANK = 11
CHOICE_RANK = 12


def _vector_text(vector):
    if is_known(vector):
        number = to_number(vector)
        if vector == from_number(number, width=least_width(number)):
            return str(number)
    return f"{len(vector)}'b{vector}"


def _wrapped(shown, rank):
    """Return the text and the levels of an operand that may have operators up to the rank."""
    text, own_rank, levels = shown
    if own_rank <= rank:
        return (text, levels)
    return (f"({text})", levels + 1)


def _shown_list(trees):
    """Return the text of parts between commas, and the levels of the deepest one."""
    parts = [_shown(tree) for tree in trees]
    text = ", ".join([part[0] for part in parts])
    return (text, max([part[2] for part in parts]))


def _shown_part(tree):
    high, _, high_levels = _shown(tree[2])
    low, _, low_levels = _shown(tree[3])
    return (f"{tree[1]}[{high}:{low}]", PRIMARY_RANK, max(high_levels, low_levels) + 1)


def _shown_repetition(tree):
    count, _, count_levels = _shown(tree[1])
    operand, _, levels = _shown(tree[2])
    return (f"{{{count}: {operand}}}", PRIMARY_RANK, max(count_levels, levels) + 1)


def _shown_primary(tree):
    head = tree[0]
    if head == "lit":
        return (_vector_text(tree[1]), PRIMARY_RANK, 1)
    if head == "ref":
        return (tree[1], PRIMARY_RANK, 1)
    if head == "part":
        return _shown_part(tree)
    if head == "rep":
        return _shown_repetition(tree)
    if head == "pick":
        text, _, levels = _shown(tree[2])
        return (f"{tree[1]}[{text}]", PRIMARY_RANK, levels + 1)
    if head == "cat":
        text, levels = _shown_list(tree[1])
        return (f"{{{text}}}", PRIMARY_RANK, levels + 1)
    text, levels = _shown_list(tree[2])
    return (f"{tree[1]}({text})", PRIMARY_RANK, levels + 1)


def _shown_unary(tree):
    shown = _shown(tree[1])
    text, levels = _wrapped(shown, UNARY_RANK)
    # two signs side by side may be the beginning of a longer sign
    space = " " if shown[1] == UNARY_RANK else ""
    return (UNARY_SIGNS[tree[0]] + space + text, UNARY_RANK, levels + 1)


def _joined(one, sign, two, rank):
    left, left_levels = _wrapped(one, rank)
    right, right_levels = _wrapped(two, rank - 1)
    return (f"{left} {sign} {right}", rank, max(left_levels, right_levels))


def _shown_binary(tree):
    rank, sign = BINARY_SIGNS[tree[0]]
    one = _shown(tree[1])
    two = _shown(tree[2])
    plain = _joined(one, sign, two, rank)
    if tree[0] not in SWAPPED_SIGNS:
        return plain
    # a chain of > stands on the right-hand side of <, where it would need parentheses
    swapped = _joined(two, SWAPPED_SIGNS[tree[0]], one, rank)
    return swapped if swapped[2] < plain[2] else plain


def _shown_choice(tree):
    condition, condition_levels = _wrapped(_shown(tree[1]), LAST_BINARY_RANK)
    one, _, one_levels = _shown(tree[2])
    two, _, two_levels = _shown(tree[3])
    levels = max(condition_levels, one_levels + 1, two_levels + 1)
    return (f"{condition} ? {one} : {two}", CHOICE_RANK, levels)


def _shown(tree):
    head = tree[0]
    if head in UNARY_SIGNS:
        return _shown_unary(tree)
    if head in BINARY_SIGNS:
        return _shown_binary(tree)
    if head == "mux":
        return _shown_choice(tree)
    return _shown_primary(tree)


def show_expression(expression):
    """Return the text of an expression."""
    return _shown(expression)[0]


def show_target(target):
    """Return the text of a target."""
    # each target has the form of an expression
    return show_expression(target)


def _block_text(block, indent):
    """Return the text of a block whose statements have one step more than the indent."""
    if not block:
        return "{}"
    inner = "".join([show_statement(statement, indent=indent + 1) for statement in block])
    return "{\n" + inner + STEP * indent + "}"


def _if_text(statement, indent):
    _, condition, block, others = statement
    text = f"if {show_expression(condition)} " + _block_text(block, indent)
    if not others:
        return text
    if len(others) == 1 and others[0][0] == "if":
        return text + " else " + _if_text(others[0], indent)
    return text + " else " + _block_text(others, indent)


def _case_text(statement, indent):
    _, tree, arms, others = statement
    lines = f"case {show_expression(tree)} " + "{\n"
    pad = STEP * (indent + 1)
    for vectors, block in arms:
        constants = ", ".join([_vector_text(vector) for vector in vectors])
        lines += pad + constants + ": " + _block_text(block, indent + 1) + "\n"
    if others:
        lines += pad + "else " + _block_text(others, indent + 1) + "\n"
    return lines + STEP * indent + "}"


def _range_text(item):
    return f"{item[0]} {item[1]} in {show_expression(item[2])}..{show_expression(item[3])} "


def _assignment_text(target, sign, tree):
    return f"{show_target(target)} {sign} {show_expression(tree)};"


def _statement_text(statement, indent):
    head = statement[0]
    if head == "set":
        return _assignment_text(statement[1], "=", statement[2])
    if head == "next":
        return _assignment_text(statement[1], "<-", statement[2])
    if head == "if":
        return _if_text(statement, indent)
    if head == "case":
        return _case_text(statement, indent)
    if head == "loop":
        return _range_text(statement) + _block_text(statement[4], indent)
    return f"give {show_expression(statement[1])};"


def show_statement(statement, *, indent=0):
    """Return the text of a statement, which ends with a newline."""
    return STEP * indent + _statement_text(statement, indent) + "\n"


def _declared_text(name, width):
    if width == ("lit", "1"):
        return name
    return f"{name}[{show_expression(width)}]"


def _items_text(items, indent):
    if not items:
        return "{}"
    return "{\n" + _item_lines(items, indent + 1) + STEP * indent + "}"


def _given_text(item, indent):
    _, condition, chosen, others = item
    text = f"given {show_expression(condition)} " + _items_text(chosen, indent)
    return text + " else " + _items_text(others, indent) if others else text


def _use_text(item):
    _, name, unit, arguments, ports = item
    values = ", ".join([show_expression(argument) for argument in arguments])
    links = ", ".join([port + ": " + show_expression(tree) for port, tree in ports])
    return f"use {name} = {unit}({values})({links});"


def _function_text(item, indent):
    _, name, parameters, width, block = item
    texts = ", ".join([_declared_text(parameter, bits) for parameter, bits in parameters])
    # the width stands behind the parentheses as it stands behind a name
    return "func " + _declared_text(f"{name}({texts})", width) + " " + _block_text(block, indent)


def _register_text(item):
    text = "reg " + _declared_text(item[1], item[2])
    if item[3] == ("lit", "0"):
        return text + ";"
    return text + f" = {show_expression(item[3])};"


def _item_text(item, indent):
    head = item[0]
    if head in ("in", "out", "wire", "var"):
        return f"{head} {_declared_text(item[1], item[2])};"
    if head == "reg":
        return _register_text(item)
    if head == "drive":
        return _assignment_text(item[1], "=", item[2])
    if head in ("when", "tick"):
        return f"{head} " + _block_text(item[1], indent)
    if head == "use":
        return _use_text(item)
    if head == "each":
        return _range_text(item) + _items_text(item[4], indent)
    if head == "given":
        return _given_text(item, indent)
    return _function_text(item, indent)


def _item_lines(items, indent):
    return "".join([STEP * indent + _item_text(item, indent) + "\n" for item in items])


def _unit_text(unit):
    _, name, parameters, items = unit
    return f"unit {name}(" + ", ".join(parameters) + ")\n" + _item_lines(items, 1) + "end\n"


def show_units(units):
    """Return the text of a tuple of units."""
    return "".join([_unit_text(unit) for unit in units])
