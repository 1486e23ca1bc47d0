"""Expressions and targets of the flat design."""

from clockwright.errors import Misused, Width
from clockwright.widths import constant, is_constant, literal, width_of


def _check_width(tree, scope, design):
    width_of(tree, widths=scope.widths, functions=design.function_widths())


def _signal(scope, name):
    meaning = scope.meaning(name)
    if meaning[0] != "signal":
        raise Misused(name)
    return meaning[1]


def _flat_name(scope, name):
    meaning = scope.meaning(name)
    if meaning[0] == "constant":
        return literal(meaning[1])
    return ("ref", _signal(scope, name))


def _flat_part(tree, scope, flat):
    high = constant(tree[2], table=scope.constants)
    low = constant(tree[3], table=scope.constants)
    if not low <= high < scope.widths[flat]:
        raise Width(flat)
    return ("part", flat, high, low)


def _flat_pick(tree, scope, design):
    flat = _signal(scope, tree[1])
    if is_constant(tree[2], table=scope.constants):
        return ("pick", flat, literal(constant(tree[2], table=scope.constants)))
    return ("pick", flat, _flat(tree[2], scope, design))


def _flat_repetition(tree, scope, design):
    count = constant(tree[1], table=scope.constants)
    if count == 0:
        raise Width(0)
    return ("rep", count, _flat(tree[2], scope, design))


def _flat_call(tree, scope, design):
    _, name, arguments = tree
    meaning = scope.meaning(name)
    if meaning[0] != "function":
        raise Misused(name)
    flat = meaning[1]
    if len(arguments) != len(design.functions[flat][0]):
        raise Misused(name)
    return ("call", flat, _flat_all(arguments, scope, design))


def _flat_all(trees, scope, design):
    return tuple([_flat(tree, scope, design) for tree in trees])


def _flat(tree, scope, design):
    """Return an expression of the flat design, whose width is not yet checked."""
    head = tree[0]
    if head == "lit":
        return tree
    if head == "ref":
        return _flat_name(scope, tree[1])
    if head == "pick":
        return _flat_pick(tree, scope, design)
    if head == "part":
        return _flat_part(tree, scope, _signal(scope, tree[1]))
    if head == "cat":
        return ("cat", _flat_all(tree[1], scope, design))
    if head == "rep":
        return _flat_repetition(tree, scope, design)
    if head == "call":
        return _flat_call(tree, scope, design)
    return (head,) + _flat_all(tree[1:], scope, design)


def flat_expression(tree, scope, design):
    """Return the expression of the flat design for an expression at a place of the text."""
    flat = _flat(tree, scope, design)
    _check_width(flat, scope, design)
    return flat


def _assignable(scope, name, kinds):
    meaning = scope.meaning(name)
    if meaning[0] != "signal" or meaning[2] not in kinds:
        raise Misused(name)
    return meaning[1]


def _target_pick(tree, scope, design, flat, fixed):
    if is_constant(tree[2], table=scope.constants):
        index = constant(tree[2], table=scope.constants)
        if index >= scope.widths[flat]:
            raise Width(flat)
        return ("pick", flat, literal(index))
    if fixed:
        raise Misused(tree[1])
    return ("pick", flat, flat_expression(tree[2], scope, design))


def _target(tree, scope, design, kinds, fixed):
    head = tree[0]
    if head == "cat":
        return ("cat", tuple([_target(part, scope, design, kinds, fixed) for part in tree[1]]))
    flat = _assignable(scope, tree[1], kinds)
    if head == "pick":
        return _target_pick(tree, scope, design, flat, fixed)
    if head == "part":
        return _flat_part(tree, scope, flat)
    return ("ref", flat)


def flat_target(tree, scope, design, *, kinds, fixed):
    """Return the target of the flat design for a target at a place of the text.

    It names signals of these kinds; its indexes must be constant if they are fixed.
    """
    flat = _target(tree, scope, design, kinds, fixed)
    _check_width(flat, scope, design)
    return flat
