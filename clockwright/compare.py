"""Whether two graphs agree, as far as it can be decided."""

from clockwright.certify import Joint, have_same_ports
from clockwright.clauses import clauses_with
from clockwright.errors import Unbounded, Unsupported
from clockwright.graph import initial_state, moved
from clockwright.solver import solve
from clockwright.unroll import rows_of, unroll


def _leaves(classes, bits, index):
    """Tell whether a register leaves its class."""
    leader, flip = classes[index]
    if leader == -1:
        return bits[index] ^ flip == 1
    return bits[index] ^ flip != bits[leader]


def refine(classes, bits):
    """Return the classes that the next values of all registers leave of these."""
    found = []
    # the first register that leaves a class, by the class's leader
    first_ones = {}
    for index, (leader, flip) in enumerate(classes):
        if not _leaves(classes, bits, index):
            found.append((leader, flip))
        elif leader in first_ones:
            first = first_ones[leader]
            found.append((first, flip ^ classes[first][1]))
        else:
            first_ones[leader] = index
            found.append((index, 0))
    return found


def _decided(graph, literal, limit):
    """Return what the solver tells of the values of the nodes with which a literal is 1."""
    return solve(clauses_with(graph, literal), graph.node_count(), limit)


def _next_bits(found, assignment):
    """Return the next values of all registers in a model of a joint graph."""
    return [moved(assignment, literal) for literal in found.nexts]


def _differing_rows(first, second, cycles, limit):
    """Return the answer of compare for graphs without a certificate."""
    for many in range(1, cycles + 1):
        graph, literal = unroll(first, second, many)
        answer, assignment = _decided(graph, literal, limit)
        if answer == "model":
            return ("different", rows_of(assignment, first.inputs, many))
        if answer == "unknown":
            break
    return ("unknown", None)


def _compared(first, second, cycles, limit):
    classes = [(-1, initial) for initial in initial_state(first) + initial_state(second)]
    found = Joint(first, second, classes)
    answer, worth = _decided(found.graph, found.step_literal, limit)
    while answer == "model":
        classes = refine(classes, _next_bits(found, worth))
        found = Joint(first, second, classes)
        answer, worth = _decided(found.graph, found.step_literal, limit)
    if answer == "refuted":
        answer, worth = _decided(found.graph, found.goal_literal, limit)
    if answer == "unknown":
        return ("unknown", None)
    if answer == "refuted":
        return ("equal", (classes, worth))
    return _differing_rows(first, second, cycles, limit)


def compare(first, second, *, cycles, limit):
    """Return whether two graphs agree, with a certificate, differ, with the rows of a run, or neither."""
    if not have_same_ports(first, second):
        raise Unsupported("ports")
    try:
        return _compared(first, second, cycles, limit)
    except Unbounded:
        # a graph would be too large
        return ("unknown", None)
