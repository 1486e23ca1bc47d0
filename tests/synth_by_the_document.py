"""Synthesis as point SY2 to SY5 have it, word by word; the expressions are those of the package."""

import copy

from clockwright.circuits import choose_bits, equal_bits, expression_bits, fit, reduce_or, store_bit, text_bits
from clockwright.drivers import build_order
from clockwright.graph import Graph


class ReferenceBuilder:
    def __init__(self, design, graph):
        self.design = design
        self.graph = graph

    def call(self, name, arguments):
        parameters, width, block = self.design.functions[name]
        env = {}
        for index, (parameter, parameter_width) in enumerate(parameters):
            env[parameter] = fit(arguments[index], parameter_width)
        for statement in block[:-1]:
            self.run(statement, env, {})
        return fit(expression_bits(self.graph, block[-1][1], env, self), width)

    def flat(self, target):
        return [target] if target[0] != "cat" else sum(map(self.flat, target[1]), [])

    def width(self, target, table):
        return {"pick": lambda: 1, "part": lambda: target[2] - target[3] + 1,
                "ref": lambda: len(table[target[1]])}[target[0]]()

    def run(self, statement, env, updates):
        if statement[0] in ("set", "next"):
            table = env if statement[0] == "set" else updates
            self.change(statement[1], statement[2], env, table)
        elif statement[0] == "if":
            condition = expression_bits(self.graph, statement[1], env, self)
            truth = reduce_or(self.graph, condition)
            self.fork(truth, statement[2], statement[3], env, updates)
        else:
            self.case(expression_bits(self.graph, statement[1], env, self), statement[2], statement[3], env, updates)

    def change(self, target, expression, env, table):
        bits = expression_bits(self.graph, expression, env, self)
        targets = self.flat(target)
        bits = fit(bits, sum(self.width(each, table) for each in targets))
        indexes = {}
        for place, each in enumerate(targets):
            if each[0] == "pick":
                indexes[place] = expression_bits(self.graph, each[2], env, self)
        for place, each in enumerate(targets):
            many = self.width(each, table)
            own = bits[len(bits) - many:]
            bits = bits[:len(bits) - many]
            if each[0] == "pick" and each[2][0] != "lit":
                table[each[1]] = store_bit(self.graph, table[each[1]], indexes[place], own[0])
            else:
                low = {"ref": lambda: 0, "pick": lambda: int(each[2][1], 2), "part": lambda: each[3]}[each[0]]()
                for index, literal in enumerate(own):
                    place = low + index
                    table[each[1]] = table[each[1]][:place] + [literal] + table[each[1]][place + 1:]

    def case(self, bits, arms, others, env, updates):
        if not arms:
            for statement in others:
                self.run(statement, env, updates)
            return
        vectors, block = arms[0]
        equals = []
        for vector in vectors:
            width = max(len(bits), len(vector))
            equals.append(equal_bits(self.graph, fit(bits, width), fit(text_bits(vector), width)))
        found = reduce_or(self.graph, equals)
        first = (copy.deepcopy(env), copy.deepcopy(updates))
        second = (copy.deepcopy(env), copy.deepcopy(updates))
        for statement in block:
            self.run(statement, *first)
        self.case(bits, arms[1:], others, *second)
        self.merge(found, first, second, env, updates)

    def fork(self, literal, one, two, env, updates):
        first = (copy.deepcopy(env), copy.deepcopy(updates))
        second = (copy.deepcopy(env), copy.deepcopy(updates))
        for statement in one:
            self.run(statement, *first)
        for statement in two:
            self.run(statement, *second)
        self.merge(literal, first, second, env, updates)

    def merge(self, literal, first, second, env, updates):
        for table, one, two in ((env, first[0], second[0]), (updates, first[1], second[1])):
            for name in table:
                table[name] = [self.merged(literal, a, b) for a, b in zip(one[name], two[name])]

    def merged(self, literal, one, two):
        if one == two:
            return one
        if one is None or two is None:
            return None
        return choose_bits(self.graph, literal, [one], [two])[0]


def reference_graph(design):
    """The graph of a design that can be synthesized."""
    inputs, registers = design.inputs(), design.registers()
    initials = [int(bit) for name in registers for bit in reversed(design.reset[name])]
    graph = Graph(sum(design.width[name] for name in inputs), initials)
    env = {}
    literal = 2
    for name in inputs + registers:
        env[name] = list(range(literal, literal + 2 * design.width[name], 2))
        literal += 2 * design.width[name]
    for name in design.names:
        if name not in env:
            env[name] = [None] * design.width[name]
    builder = ReferenceBuilder(design, graph)
    for word, index in build_order(design):
        if word == "drive":
            builder.change(*design.drives[index], env, env)
        else:
            for statement in design.whens[index]:
                builder.run(statement, env, {})
    updates = {name: list(env[name]) for name in registers}
    for block in design.ticks:
        for statement in block:
            builder.run(statement, env, updates)
    graph.set_outputs([bit for name in design.outputs() for bit in env[name]])
    for index, bit in enumerate([bit for name in registers for bit in updates[name]]):
        graph.set_next(index, bit)
    return graph
