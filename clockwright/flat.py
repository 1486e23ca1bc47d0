"""Elaboration: from units to one flat design."""

from clockwright.build import Build
from clockwright.errors import Misused, Twice, Unbounded, Unknown, Width
from clockwright.flatten import flat_expression, flat_target
from clockwright.items import parse, unit_named
from clockwright.logic import from_number
from clockwright.process import flat_block, flat_body
from clockwright.scope import Scope
from clockwright.tree import called_by, written_by
from clockwright.widths import constant

MAX_WIDTH = 64
MAX_AROUND = 12
MAX_CHAIN = 4

DRIVEN_KINDS = ("wire", "out")


def _width_value(tree, scope, name):
    width = constant(tree, table=scope.constants)
    if not 1 <= width <= MAX_WIDTH:
        raise Width(name)
    return width


def _declare_signal(build, scope, item):
    kind, name = item[:2]
    flat = scope.prefix + name
    width = _width_value(item[2], scope, flat)
    if kind == "reg":
        number = constant(item[3], table=scope.constants)
        build.design.reset[flat] = from_number(number, width=width)
    scope.declare(name, ("signal", flat, kind))
    inside = scope.around > 0 and kind in ("in", "out")
    build.add_signal(flat, name, "wire" if inside else kind, width)


def _drive(build, scope, item):
    tree = flat_expression(item[2], scope, build.design)
    _add_drive(build, scope, item[1], tree)


def _add_drive(build, scope, target, tree):
    flat = flat_target(target, scope, build.design, kinds=DRIVEN_KINDS, fixed=True)
    build.add_drive(flat, tree)


def _when(build, scope, item):
    block = flat_block(build, scope, item[1], "when")
    build.assign_names(written_by(block))
    build.design.whens.append(block)


def _tick(build, scope, item):
    block = flat_block(build, scope, item[1], "tick")
    build.assign_names(written_by(block))
    build.design.ticks.append(block)


def _each(build, scope, item):
    _, name, low, high, items = item
    first = constant(low, table=scope.constants)
    last = constant(high, table=scope.constants)
    for value in range(first, last):
        build.tally()
        inner = scope.inner(f"{scope.prefix}{name}[{value}].", name, value)
        _elaborate_items(build, inner, items)


def _given(build, scope, item):
    _, condition, chosen, others = item
    holds = constant(condition, table=scope.constants) != 0
    _elaborate_items(build, scope, chosen if holds else others)


def _function_scope(scope, parameters):
    """Return the scope inside a function; the widths of its parameters belong outside."""
    inner = scope.body({})
    for name, tree in parameters:
        width = _width_value(tree, scope, name)
        inner.declare(name, ("signal", name, "parameter"))
        inner.widths[name] = width
    return inner


def _function(build, scope, item):
    _, name, parameters, width_tree, block = item
    flat = scope.prefix + name
    inner = _function_scope(scope, parameters)
    width = _width_value(width_tree, scope, flat)
    body = flat_body(build, inner, block)
    chain = 1 + max([build.chains[called] for called in called_by(body)], default=0)
    if chain > MAX_CHAIN:
        raise Unbounded("depth")
    scope.declare(name, ("function", flat))
    build.claim(flat, name)
    build.chains[flat] = chain
    pairs = [(parameter, inner.widths[parameter]) for parameter, _ in parameters]
    build.design.functions[flat] = (tuple(pairs), width, body)


def _use(build, scope, item):
    _, name, unit_name, arguments, ports = item
    unit = unit_named(build.units, unit_name)
    if len(arguments) != len(unit[2]):
        raise Misused(unit_name)
    numbers = [constant(argument, table=scope.constants) for argument in arguments]
    scope.declare(name, ("instance",))
    if scope.around > MAX_AROUND:
        raise Unbounded("depth")
    prefix = f"{scope.prefix}{name}."
    inner = Scope(prefix, None, widths=build.design.width, around=scope.around + 1)
    _elaborate_unit(build, inner, unit, numbers)
    _connect_all(build, scope, inner, ports)


def _connect_all(build, scope, inner, ports):
    connected = {}
    for port, tree in ports:
        flat, kind = _port_of(inner, port)
        if port in connected:
            raise Twice(port)
        connected[port] = True
        if kind == "in":
            build.add_drive(("ref", flat), flat_expression(tree, scope, build.design))
        elif _is_target(tree):
            _add_drive(build, scope, tree, ("ref", flat))
        else:
            raise Misused(port)


def _port_of(scope, name):
    meaning = scope.meanings.get(name, ("nothing",))
    if meaning[0] != "signal" or meaning[2] not in ("in", "out"):
        raise Unknown(name)
    return (meaning[1], meaning[2])


def _is_target(tree):
    if tree[0] == "cat":
        return all([_is_target(part) for part in tree[1]])
    return tree[0] in ("ref", "pick", "part")


def _elaborate_unit(build, scope, unit, numbers):
    for name, number in zip(unit[2], numbers):
        scope.declare(name, ("constant", number))
    _elaborate_items(build, scope, unit[3])


def _elaborate_items(build, scope, items):
    for item in items:
        build.tally()
        action = ACTIONS[item[0]]
        action(build, scope, item)


def elaborate(units, *, top, arguments=()):
    """Return the flat design of the unit with the name top."""
    unit = unit_named(units, top)
    if len(arguments) != len(unit[2]):
        raise Misused(top)
    for number in arguments:
        if not 0 <= number < 2 ** 64:
            raise Width("constant")
    build = Build(units)
    scope = Scope("", None, widths=build.design.width, around=0)
    _elaborate_unit(build, scope, unit, arguments)
    return build.design


def design_of(text, *, top, arguments=()):
    """Return the flat design of a unit of a design text."""
    return elaborate(parse(text), top=top, arguments=arguments)


ACTIONS = {
    "in": _declare_signal,
    "out": _declare_signal,
    "wire": _declare_signal,
    "reg": _declare_signal,
    "var": _declare_signal,
    "drive": _drive,
    "when": _when,
    "tick": _tick,
    "use": _use,
    "each": _each,
    "given": _given,
    "func": _function,
}
