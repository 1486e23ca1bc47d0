"""Copies of graphs in another one, and the cycles of a run side by side."""

from clockwright.graph import Graph, initial_state, moved


def copy_into(graph, source, inputs, registers):
    """Copy the ANDs of the source; return the literals of its outputs, and its next literals."""
    built = [0, *inputs, *registers]
    for a, b in source.ands:
        built.append(graph.conjunction(moved(built, a), moved(built, b)))
    outputs = [moved(built, literal) for literal in source.outputs]
    return (outputs, [moved(built, literal) for literal, _ in source.registers])


def difference(graph, first, second):
    """Return a literal that is 1 if and only if the lists of literals have different values."""
    found = 0
    for one, two in zip(first, second):
        other = graph.exclusive(one, two)
        found = graph.disjunction(found, other)
    return found


def unroll(first, second, cycles):
    """Return a graph with the inputs of all cycles, and the difference of the outputs in the last one."""
    graph = Graph(cycles * first.inputs, [])
    # the literals for the initial bits are the bits themselves
    one, two = initial_state(first), initial_state(second)
    first_outputs, second_outputs = [], []
    for cycle in range(cycles):
        inputs = [graph.input_literal(cycle * first.inputs + index) for index in range(first.inputs)]
        first_outputs, one = copy_into(graph, first, inputs, one)
        second_outputs, two = copy_into(graph, second, inputs, two)
    return (graph, difference(graph, first_outputs, second_outputs))


def rows_of(assignment, inputs, cycles):
    """Return the rows of the cycles from the values of the variables of an unrolled graph."""
    starts = [1 + cycle * inputs for cycle in range(cycles)]
    return [list(assignment[start:start + inputs]) for start in starts]
