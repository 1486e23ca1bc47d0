"""Blocks of processes and functions in the flat design."""

from clockwright.errors import Misused
from clockwright.flatten import flat_expression, flat_target
from clockwright.widths import constant

# What a statement that assigns is called in each kind of block, and what it assigns to.
ASSIGNMENTS = {"when": "set", "tick": "next", "func": "set"}
ASSIGNED_KINDS = {"when": ("var",), "tick": ("reg",), "func": ("parameter",)}


def flat_block(build, scope, block, role):
    """Return the block of the flat design; the role is when, tick or func."""
    statements = []
    for statement in block:
        if statement[0] == "loop":
            statements.extend(_flat_loop(build, scope, statement, role))
        else:
            build.tally()
            statements.append(_flat_statement(build, scope, statement, role))
    return tuple(statements)


def _flat_loop(build, scope, statement, role):
    _, name, low, high, block = statement
    first = constant(low, table=scope.constants)
    last = constant(high, table=scope.constants)
    statements = []
    for value in range(first, last):
        build.tally()
        inner = scope.inner(scope.prefix, name, value)
        statements.extend(flat_block(build, inner, block, role))
    return statements


def _flat_statement(build, scope, statement, role):
    head = statement[0]
    if head == "if":
        return _flat_if(build, scope, statement, role)
    if head == "case":
        return _flat_case(build, scope, statement, role)
    if head != ASSIGNMENTS[role]:
        raise Misused(head)
    tree = flat_expression(statement[2], scope, build.design)
    target = flat_target(statement[1], scope, build.design, kinds=ASSIGNED_KINDS[role], fixed=False)
    return (head, target, tree)


def _flat_if(build, scope, statement, role):
    condition = flat_expression(statement[1], scope, build.design)
    chosen = flat_block(build, scope, statement[2], role)
    return ("if", condition, chosen, flat_block(build, scope, statement[3], role))


def _flat_case(build, scope, statement, role):
    tree = flat_expression(statement[1], scope, build.design)
    arms = []
    for vectors, block in statement[2]:
        arms.append((vectors, flat_block(build, scope, block, role)))
    return ("case", tree, tuple(arms), flat_block(build, scope, statement[3], role))


def flat_body(build, scope, block):
    """Return the block of a function, whose last statement gives the value."""
    if not block or block[-1][0] != "give":
        raise Misused("give")
    statements = flat_block(build, scope, block[:-1], "func")
    build.tally()
    return statements + (("give", flat_expression(block[-1][1], scope, build.design)),)
