"""The values of expressions, and what statements do to the values of a design.

The values are a dict from names to vectors. The width of a name is the length
of its vector, so the same functions serve signals and parameters.
"""

from clockwright.logic import (
    add, bit_and, bit_not, bit_or, bit_xor, choose, equal, is_known, join, less, less_equal, logic_and, logic_not,
    logic_or, multiply, negate, not_equal, part, pick, reduce_and, reduce_or, reduce_xor, resize, same, shift_left,
    shift_right, subtract, to_number, truth,
)


def unknown(width):
    """Return the vector with x in each bit."""
    return "x" * width


def _of_one(head, vector):
    actions = {
        "not": bit_not, "neg": negate, "lnot": logic_not,
        "redand": reduce_and, "redor": reduce_or, "redxor": reduce_xor,
    }
    action = actions[head]
    return action(vector)


def _of_two(head, one, two):
    actions = {
        "and": bit_and, "or": bit_or, "xor": bit_xor,
        "add": add, "sub": subtract, "mul": multiply,
        "shl": shift_left, "shr": shift_right,
        "lt": less, "le": less_equal, "eq": equal, "ne": not_equal, "same": same,
        "land": logic_and, "lor": logic_or,
    }
    action = actions[head]
    return action(one, two)


def _all_values(design, values, expressions):
    return [value(design, values, expression) for expression in expressions]


def _of_operator(design, values, expression):
    operands = _all_values(design, values, expression[1:])
    if len(operands) == 1:
        return _of_one(expression[0], operands[0])
    if len(operands) == 2:
        return _of_two(expression[0], operands[0], operands[1])
    return choose(operands[0], operands[1], operands[2])


def _of_call(design, values, expression):
    _, name, arguments = expression
    parameters, width, block = design.functions[name]
    vectors = _all_values(design, values, arguments)
    inner = {}
    for (parameter, parameter_width), vector in zip(parameters, vectors):
        inner[parameter] = resize(vector, width=parameter_width)
    # give is the last statement of each function, and nowhere else
    run_when(design, inner, block[:-1])
    return resize(value(design, inner, block[-1][1]), width=width)


def value(design, values, expression):
    """Return the value of an expression, a vector."""
    head = expression[0]
    if head == "lit":
        return expression[1]
    if head == "ref":
        return values[expression[1]]
    if head == "pick":
        return pick(values[expression[1]], value(design, values, expression[2]))
    if head == "part":
        return part(values[expression[1]], high=expression[2], low=expression[3])
    if head == "cat":
        return join(_all_values(design, values, expression[1]))
    if head == "rep":
        return join([value(design, values, expression[2])] * expression[1])
    if head == "call":
        return _of_call(design, values, expression)
    return _of_operator(design, values, expression)


def _target_width(values, target):
    head = target[0]
    if head == "cat":
        return sum([_target_width(values, inner) for inner in target[1]])
    if head == "pick":
        return 1
    if head == "part":
        return target[2] - target[3] + 1
    return len(values[target[1]])


def _places_of_pick(design, values, target, vector):
    name = target[1]
    width = len(values[name])
    index = value(design, values, target[2])
    if not is_known(index):
        return [((name, width - 1, 0), unknown(width))]
    place = to_number(index)
    if place >= width:
        return []
    return [((name, place, place), vector)]


def _places_of_cat(design, values, target, vector):
    found = []
    rest = vector
    for inner in target[1]:
        width = _target_width(values, inner)
        found.extend(places(design, values, inner, rest[:width]))
        rest = rest[width:]
    return found


def places(design, values, target, vector):
    """Return the pairs (place, vector) that assigning the vector to the target changes."""
    fitting = resize(vector, width=_target_width(values, target))
    head = target[0]
    if head == "cat":
        return _places_of_cat(design, values, target, fitting)
    if head == "pick":
        return _places_of_pick(design, values, target, fitting)
    if head == "part":
        return [((target[1], target[2], target[3]), fitting)]
    return [((target[1], len(fitting) - 1, 0), fitting)]


def store(values, place, vector):
    """Change the values at a place, and tell whether a bit changed."""
    name, high, low = place
    old = values[name]
    width = len(old)
    values[name] = old[:width - 1 - high] + vector + old[width - low:]
    return values[name] != old


def _assign_noting(design, values, target, vector, before):
    """Assign to a target, and note the first values of the names in the dict before."""
    # all indexes are evaluated before the first place changes
    for place, fitting in places(design, values, target, vector):
        before.setdefault(place[0], values[place[0]])
        store(values, place, fitting)


def _changed_names(values, before):
    return sorted([name for name in before if values[name] != before[name]])


def assign(design, values, target, vector):
    """Store all places of a target, and return the names that changed, in ascending order."""
    before = {}
    _assign_noting(design, values, target, vector, before)
    return _changed_names(values, before)


def _case_block(design, values, statement):
    _, expression, arms, others = statement
    chosen = value(design, values, expression)
    for vectors, block in arms:
        for vector in vectors:
            if same(chosen, vector) == "1":
                return block
    return others


def _run_block(design, values, block, act):
    """Run a block; act is called with each statement that is neither if nor case."""
    for statement in block:
        if statement[0] == "if":
            holds = truth(value(design, values, statement[1])) == "1"
            _run_block(design, values, statement[2] if holds else statement[3], act)
        elif statement[0] == "case":
            _run_block(design, values, _case_block(design, values, statement), act)
        else:
            act(statement)


def run_when(design, values, block):
    """Run the block of a when process, and return the names that changed, in ascending order."""
    before = {}

    def change(statement):
        vector = value(design, values, statement[2])
        _assign_noting(design, values, statement[1], vector, before)

    _run_block(design, values, block, change)
    return _changed_names(values, before)


def run_tick(design, values, block):
    """Return the pairs (place, vector) that the block of a tick process records, in their order."""
    recorded = []

    def record(statement):
        vector = value(design, values, statement[2])
        recorded.extend(places(design, values, statement[1], vector))

    _run_block(design, values, block, record)
    return recorded
