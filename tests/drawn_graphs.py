"""Graphs that are drawn by a generator with a fixed seed, and what is said of graphs in general."""

import itertools
import random

from clockwright.graph import Graph, step


def drawn_graph(seed, inputs=3, registers=2, ands=12, outputs=3):
    """A graph with so many calls of conjunction."""
    drawn = random.Random(seed)
    graph = Graph(inputs, [drawn.randrange(2) for _ in range(registers)])

    def literal():
        return drawn.randrange(2 * graph.node_count())

    for _ in range(ands):
        graph.conjunction(literal(), literal())
    for index in range(registers):
        graph.set_next(index, literal())
    graph.set_outputs([literal() for _ in range(outputs)])
    return graph


def fields(graph):
    return (graph.inputs, list(graph.registers), list(graph.ands), list(graph.outputs))


def bits(many):
    """All lists of so many bits."""
    return [list(row) for row in itertools.product((0, 1), repeat=many)]


def behaviour(graph):
    """The outputs and the next states for all rows and states."""
    states = bits(len(graph.registers))
    return [step(graph, row, state) for row in bits(graph.inputs) for state in states]


class Recorder(Graph):
    """A graph that records the calls of its methods."""

    def __init__(self, inputs, initials=()):
        super().__init__(inputs, list(initials))
        self.recorded = []

    def conjunction(self, a, b):
        result = super().conjunction(a, b)
        self.recorded.append((tuple(sorted((a, b))), result))
        return result
