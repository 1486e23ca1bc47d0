"""Synthesis: from flat designs to graphs with names."""

from clockwright.circuits import equal_bits, expression_bits, fit, reduce_or, store_bit, text_bits
from clockwright.drivers import assigned_names, build_order, check_sources
from clockwright.errors import Latched, Unbounded
from clockwright.graph import Graph

MAX_STEPS = 2000


class Machine:
    """A graph with the names of its inputs, registers and outputs."""

    def __init__(self, graph, inputs, registers, outputs):
        self.graph = graph
        self.inputs = list(inputs)
        self.registers = list(registers)
        self.outputs = list(outputs)


def bit_names(name, width):
    """Return the names of the bits of a signal, from the least significant one on."""
    if width == 1:
        return [name]
    return [f"{name}[{index}]" for index in range(width)]


def _simple_targets(target):
    """Return the targets inside a cat, from left to right, or the target alone."""
    if target[0] != "cat":
        return [target]
    found = []
    for inner in target[1]:
        found.extend(_simple_targets(inner))
    return found


def _simple_width(target, changed):
    if target[0] == "pick":
        return 1
    if target[0] == "part":
        return target[2] - target[3] + 1
    return len(changed[target[1]])


def _replaced(old, low, bits):
    """Return the old bits with other ones from this index on, as far as there are old ones."""
    return (old[:low] + bits + old[low + len(bits):])[:len(old)]


class Builder:
    """Builds the statements of a design in a graph.

    The environment and the updates are dicts from names to lists of literals;
    the lists are never modified, so copies of the dicts may share them.
    """

    def __init__(self, design, graph):
        self.design = design
        self.graph = graph
        self.steps = 0

    def call(self, name, arguments):
        """Return the bits of a call."""
        parameters, width, block = self.design.functions[name]
        env = {}
        for (parameter, parameter_width), bits in zip(parameters, arguments):
            env[parameter] = fit(bits, parameter_width)
        return fit(self.run_block(block, env, {}), width)

    def run_block(self, block, env, updates):
        """Run a block, which changes the dicts, and return the bits that it gives, or None."""
        for statement in block:
            self._count_step()
            head = statement[0]
            if head == "set":
                self.assign(statement[1], statement[2], env, env)
            elif head == "next":
                self.assign(statement[1], statement[2], env, updates)
            elif head == "if":
                self._run_if(statement, env, updates)
            elif head == "case":
                self._run_case(statement, env, updates)
            else:
                return self._bits(statement[1], env)
        return None

    def _count_step(self):
        if self.steps == MAX_STEPS:
            raise Unbounded("steps")
        self.steps += 1

    def _bits(self, expression, env):
        return expression_bits(self.graph, expression, env, self)

    def assign(self, target, expression, env, changed):
        """Assign an expression in the environment to a target in the changed dict."""
        bits = self._bits(expression, env)
        targets = _simple_targets(target)
        widths = [_simple_width(simple, changed) for simple in targets]
        bits = fit(bits, sum(widths))
        indexes = [self._bits(simple[2], env) if simple[0] == "pick" else [] for simple in targets]
        top = len(bits)
        for simple, width, index in zip(targets, widths, indexes):
            self._assign_simple(simple, index, bits[top - width:top], changed)
            top -= width

    def _assign_simple(self, target, index, bits, changed):
        name = target[1]
        old = changed[name]
        if target[0] == "ref":
            changed[name] = bits
        elif target[0] == "part":
            changed[name] = _replaced(old, target[3], bits)
        elif target[2][0] == "lit":
            changed[name] = _replaced(old, int(target[2][1], 2), bits)
        elif None in old:
            raise Latched(name)
        else:
            changed[name] = store_bit(self.graph, old, index, bits[0])

    def _run_if(self, statement, env, updates):
        _, condition, chosen, others = statement
        literal = reduce_or(self.graph, self._bits(condition, env))
        one = self._run_copy(chosen, env, updates)
        two = self._run_copy(others, env, updates)
        self._merge_into(env, literal, one[0], two[0])
        self._merge_into(updates, literal, one[1], two[1])

    def _run_copy(self, block, env, updates):
        """Return copies of the two dicts on which the block has run."""
        copies = (dict(env), dict(updates))
        self.run_block(block, copies[0], copies[1])
        return copies

    def _run_case(self, statement, env, updates):
        _, expression, arms, others = statement
        bits = self._bits(expression, env)
        ends = []
        for vectors, block in arms:
            literal = self._is_one_of(bits, vectors)
            ends.append((literal, self._run_copy(block, env, updates)))
        rest = self._run_copy(others, env, updates)
        # behind each arm the rest of the statement starts where the statement started,
        # so the copies can be merged from the last arm to the first
        env.update(rest[0])
        updates.update(rest[1])
        for literal, copies in reversed(ends):
            self._merge_into(env, literal, copies[0], env)
            self._merge_into(updates, literal, copies[1], updates)

    def _is_one_of(self, bits, vectors):
        found = []
        for vector in vectors:
            width = max(len(bits), len(vector))
            found.append(equal_bits(self.graph, fit(bits, width), fit(text_bits(vector), width)))
        return reduce_or(self.graph, found)

    def _merge_into(self, changed, literal, first, second):
        """Change a dict to the merge of two dicts with the same names, one of which it may be."""
        for name in list(changed):
            changed[name] = self._merged(literal, first[name], second[name])

    def _merged(self, literal, first, second):
        if first == second:
            return first
        return [self._merged_bit(literal, one, two) for one, two in zip(first, second)]

    def _merged_bit(self, literal, one, two):
        if one == two:
            return one
        if one is None or two is None:
            return None
        return self.graph.choice(literal, one, two)


def _bit_names_of(design, names):
    return [bit for name in names for bit in bit_names(name, design.width[name])]


def _bits_of(table, names):
    return [bit for name in names for bit in table[name]]


def _first_environment(design, graph):
    """Give inputs and registers their literals, which follow the constants, and the others no values."""
    env = {}
    node = 1
    for name in design.inputs() + design.registers():
        env[name] = [2 * (node + index) for index in range(design.width[name])]
        node += design.width[name]
    for name in design.names:
        env.setdefault(name, [None] * design.width[name])
    return env


def _run_process(builder, block, env):
    builder.run_block(block, env, {})
    for name in assigned_names(block):
        if None in env[name]:
            raise Latched(name)


def synthesize(design):
    """Return the machine of a flat design."""
    check_sources(design)
    nodes = build_order(design)
    inputs, registers = design.inputs(), design.registers()
    initials = [bit for name in registers for bit in text_bits(design.reset[name])]
    graph = Graph(sum([design.width[name] for name in inputs]), initials)
    env = _first_environment(design, graph)
    builder = Builder(design, graph)
    for kind, index in nodes:
        if kind == "drive":
            target, expression = design.drives[index]
            builder.assign(target, expression, env, env)
        else:
            _run_process(builder, design.whens[index], env)
    updates = {name: env[name] for name in registers}
    for block in design.ticks:
        builder.run_block(block, env, updates)
    graph.set_outputs(_bits_of(env, design.outputs()))
    for index, literal in enumerate(_bits_of(updates, registers)):
        graph.set_next(index, literal)
    names = [_bit_names_of(design, group) for group in (inputs, registers, design.outputs())]
    return Machine(graph, names[0], names[1], names[2])
