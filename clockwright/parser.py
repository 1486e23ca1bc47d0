"""The parser of expressions, targets, blocks and statements."""

from clockwright.cursor import Cursor
from clockwright.grammar import check_level, read_expression, read_target
from clockwright.lexer import tokenize
from clockwright.logic import from_number, least_width


def read_block(cursor, level):
    """Read a block whose statements have this level."""
    cursor.need_sign("{")
    statements = []
    while not cursor.take_sign("}"):
        statements.append(read_statement(cursor, level))
    return tuple(statements)


def read_statement(cursor, level):
    """Read a statement of this level."""
    check_level(level)
    if cursor.take_word("if"):
        return _read_if(cursor, level)
    if cursor.take_word("case"):
        return _read_case(cursor, level)
    if cursor.take_word("loop"):
        return _read_loop(cursor, level)
    if cursor.take_word("give"):
        tree = read_expression(cursor, 1)
        cursor.need_sign(";")
        return ("give", tree)
    return _read_assignment(cursor)


def _read_assignment(cursor):
    target = read_target(cursor, 1)
    head = "next" if cursor.next_sign() == "<-" else "set"
    if not cursor.take_sign("<-"):
        cursor.need_sign("=")
    tree = read_expression(cursor, 1)
    cursor.need_sign(";")
    return (head, target, tree)


def _read_if(cursor, level):
    condition = read_expression(cursor, 1)
    block = read_block(cursor, level + 1)
    if not cursor.take_word("else"):
        return ("if", condition, block, ())
    if cursor.next_word() == "if":
        return ("if", condition, block, (read_statement(cursor, level + 1),))
    return ("if", condition, block, read_block(cursor, level + 1))


def _read_case(cursor, level):
    tree = read_expression(cursor, 1)
    cursor.need_sign("{")
    arms = []
    while cursor.next_kind() in ("number", "vector"):
        arms.append(_read_arm(cursor, level))
    others = ()
    if cursor.take_word("else"):
        others = read_block(cursor, level + 1)
    elif not arms:
        cursor.fail()
    cursor.need_sign("}")
    return ("case", tree, tuple(arms), others)


def _read_arm(cursor, level):
    vectors = [_read_constant(cursor)]
    while cursor.take_sign(","):
        vectors.append(_read_constant(cursor))
    cursor.need_sign(":")
    return (tuple(vectors), read_block(cursor, level + 1))


def _read_constant(cursor):
    if cursor.next_kind() == "vector":
        return cursor.step()
    if cursor.next_kind() != "number":
        cursor.fail()
    number = cursor.step()
    return from_number(number, width=least_width(number))


def read_range(cursor):
    """Read the name and the bounds of a loop or of repeated items."""
    name = cursor.need_name()
    cursor.need_word("in")
    low = read_expression(cursor, 1)
    cursor.need_sign("..")
    high = read_expression(cursor, 1)
    return (name, low, high)


def _read_loop(cursor, level):
    name, low, high = read_range(cursor)
    return ("loop", name, low, high, read_block(cursor, level + 1))


def parse_expression(tokens, position, *, end):
    """Return the expression that starts at a position, and the position behind it."""
    cursor = Cursor(tokens, position, end)
    tree = read_expression(cursor, 1)
    return (tree, cursor.position)


def parse_target(tokens, position, *, end):
    """Return the target that starts at a position, and the position behind it."""
    cursor = Cursor(tokens, position, end)
    tree = read_target(cursor, 1)
    return (tree, cursor.position)


def parse_block(tokens, position, *, end):
    """Return the block that starts at a position, and the position behind it."""
    cursor = Cursor(tokens, position, end)
    block = read_block(cursor, 1)
    return (block, cursor.position)


def parse_statement(tokens, position, *, end):
    """Return the statement that starts at a position, and the position behind it."""
    cursor = Cursor(tokens, position, end)
    tree = read_statement(cursor, 1)
    return (tree, cursor.position)


def expression(text):
    """Return the expression that a whole text is."""
    cursor = Cursor(tokenize(text), 0, len(text))
    tree = read_expression(cursor, 1)
    if not cursor.finished():
        cursor.fail()
    return tree
