"""The parser of whole design texts: units and their items."""

from clockwright.cursor import Cursor
from clockwright.errors import Unbounded, Unknown
from clockwright.grammar import read_expression, read_target
from clockwright.lexer import tokenize
from clockwright.parser import read_block, read_range

MAX_ITEM_LEVEL = 10
MAX_UNITS = 40

SIGNALS = ("in", "out", "wire", "reg", "var")
DECLARATIONS = ("in", "out", "wire", "reg", "var", "use", "func")

DEFAULT_WIDTH = ("lit", "1")
DEFAULT_RESET = ("lit", "0")


def _read_list(cursor, read):
    """Read one or more things that commas separate."""
    found = [read(cursor)]
    while cursor.take_sign(","):
        found.append(read(cursor))
    return tuple(found)


def _read_optional_list(cursor, read):
    """Read a list in parentheses, which may be empty."""
    cursor.need_sign("(")
    if cursor.take_sign(")"):
        return ()
    found = _read_list(cursor, read)
    cursor.need_sign(")")
    return found


def _read_whole(cursor):
    return read_expression(cursor, 1)


def _read_name(cursor):
    return cursor.need_name()


def _read_width(cursor):
    if not cursor.take_sign("["):
        return DEFAULT_WIDTH
    width = _read_whole(cursor)
    cursor.need_sign("]")
    return width


def _read_declared(cursor):
    name = cursor.need_name()
    return (name, _read_width(cursor))


def _read_register(cursor):
    name, width = _read_declared(cursor)
    if not cursor.take_sign("="):
        return ("reg", name, width, DEFAULT_RESET)
    return ("reg", name, width, _read_whole(cursor))


def _read_declarations(cursor, kind):
    if kind == "reg":
        found = list(_read_list(cursor, _read_register))
    else:
        found = [(kind, name, width) for name, width in _read_list(cursor, _read_declared)]
    cursor.need_sign(";")
    return found


def _read_drive(cursor):
    target = read_target(cursor, 1)
    cursor.need_sign("=")
    tree = _read_whole(cursor)
    cursor.need_sign(";")
    return ("drive", target, tree)


def _read_port(cursor):
    name = cursor.need_name()
    cursor.need_sign(":")
    return (name, _read_whole(cursor))


def _read_use(cursor):
    name = cursor.need_name()
    cursor.need_sign("=")
    unit = cursor.need_name()
    arguments = _read_optional_list(cursor, _read_whole)
    ports = _read_optional_list(cursor, _read_port)
    cursor.need_sign(";")
    return ("use", name, unit, arguments, ports)


def _read_function(cursor):
    name = cursor.need_name()
    cursor.need_sign("(")
    parameters = _read_list(cursor, _read_declared)
    cursor.need_sign(")")
    width = _read_width(cursor)
    return ("func", name, parameters, width, read_block(cursor, 1))


def _read_braced_items(cursor, level):
    cursor.need_sign("{")
    found = []
    while not cursor.take_sign("}"):
        found.extend(_read_item(cursor, level))
    return tuple(found)


def _read_each(cursor, level):
    name, low, high = read_range(cursor)
    return ("each", name, low, high, _read_braced_items(cursor, level + 1))


def _read_given(cursor, level):
    condition = _read_whole(cursor)
    chosen = _read_braced_items(cursor, level + 1)
    others = ()
    if cursor.take_word("else"):
        others = _read_braced_items(cursor, level + 1)
    return ("given", condition, chosen, others)


def _read_item(cursor, level):
    """Return the list of the items that one item of the text stands for."""
    if level > MAX_ITEM_LEVEL:
        raise Unbounded("depth")
    if cursor.next_word() in SIGNALS:
        return _read_declarations(cursor, cursor.step())
    if cursor.next_word() in ("when", "tick"):
        return [(cursor.step(), read_block(cursor, 1))]
    if cursor.take_word("use"):
        return [_read_use(cursor)]
    if cursor.take_word("each"):
        return [_read_each(cursor, level)]
    if cursor.take_word("given"):
        return [_read_given(cursor, level)]
    if cursor.take_word("func"):
        return [_read_function(cursor)]
    return [_read_drive(cursor)]


def _read_unit(cursor):
    cursor.need_word("unit")
    name = cursor.need_name()
    parameters = _read_optional_list(cursor, _read_name)
    found = []
    while not cursor.take_word("end"):
        found.extend(_read_item(cursor, 1))
    return ("unit", name, parameters, tuple(found))


def parse(text):
    """Return the tuple of the units of a design text."""
    cursor = Cursor(tokenize(text), 0, len(text))
    units = [_read_unit(cursor)]
    while not cursor.finished():
        if len(units) == MAX_UNITS and cursor.next_word() == "unit":
            raise Unbounded("units")
        units.append(_read_unit(cursor))
    return tuple(units)


def unit_named(units, name):
    """Return the first unit with this name."""
    for unit in units:
        if unit[1] == name:
            return unit
    raise Unknown(name)


def declared_names(unit):
    """Return the names that the items of a unit declare, with duplicates."""
    return [item[1] for item in unit[3] if item[0] in DECLARATIONS]
