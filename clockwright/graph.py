"""And-inverter graphs with registers."""

from clockwright.errors import Unbounded

MAX_NODES = 4000


class Graph:
    """Nodes that are the constant 0, inputs, registers and ANDs, in this order."""

    def __init__(self, inputs, initials):
        if 1 + inputs + len(initials) > MAX_NODES:
            raise Unbounded("graph")
        self.inputs = inputs
        self.registers = [(2 * (1 + inputs + index), initial) for index, initial in enumerate(initials)]
        self.ands = []
        self.outputs = []
        # the literals of the ANDs, by their pairs of literals
        self._literals = {}

    def node_count(self):
        """Return the number of nodes."""
        return first_and(self) + len(self.ands)

    def input_literal(self, index):
        """Return the literal of an input."""
        return 2 * (1 + index)

    def register_literal(self, index):
        """Return the literal of a register."""
        return 2 * (1 + self.inputs + index)

    def conjunction(self, a, b):
        """Return a literal for the AND of two literals."""
        low, high = min(a, b), max(a, b)
        if low == 0:
            return 0
        if low == 1 or low == high:
            return high
        if low == negated(high):
            return 0
        if (low, high) not in self._literals:
            self._literals[(low, high)] = self._added(low, high)
        return self._literals[(low, high)]

    def _added(self, low, high):
        node = self.node_count()
        if node == MAX_NODES:
            raise Unbounded("graph")
        self.ands.append((low, high))
        return 2 * node

    def disjunction(self, a, b):
        """Return a literal for the OR of two literals."""
        return negated(self.conjunction(negated(a), negated(b)))

    def exclusive(self, a, b):
        """Return a literal for the exclusive or of two literals."""
        one = self.conjunction(a, negated(b))
        two = self.conjunction(negated(a), b)
        return self.disjunction(one, two)

    def choice(self, c, a, b):
        """Return a literal whose value is that of a if c is 1, and that of b if c is 0."""
        one = self.conjunction(c, a)
        two = self.conjunction(negated(c), b)
        return self.disjunction(one, two)

    def set_next(self, index, literal):
        """Set the next literal of a register."""
        self.registers[index] = (literal, self.registers[index][1])

    def set_outputs(self, literals):
        """Set the outputs to a copy of the list."""
        self.outputs = list(literals)


def negated(literal):
    """Return the other literal of the same node."""
    return literal ^ 1


def first_and(graph):
    """Return the number of the first AND, or that which it would have."""
    return 1 + graph.inputs + len(graph.registers)


def moved(built, literal):
    """Return the literal that was built for the node of a literal, inverted where the literal is."""
    return built[literal // 2] ^ (literal & 1)


def copy_ends(graph, source, built):
    """Set next and output literals as in the source, with the literals that were built for its nodes."""
    for index, (literal, _) in enumerate(source.registers):
        graph.set_next(index, moved(built, literal))
    graph.set_outputs([moved(built, literal) for literal in source.outputs])


def initial_state(graph):
    """Return the initial bits of the registers."""
    return [initial for _, initial in graph.registers]


def node_values(graph, row, state):
    """Return the values of all nodes in a cycle."""
    found = [0, *row, *state]
    for a, b in graph.ands:
        found.append(moved(found, a) & moved(found, b))
    return found


def step(graph, row, state):
    """Return the outputs of a cycle and the next state."""
    found = node_values(graph, row, state)
    outputs = [moved(found, literal) for literal in graph.outputs]
    return (outputs, [moved(found, literal) for literal, _ in graph.registers])


def run(graph, rows):
    """Return the outputs of each cycle of a run without resets."""
    return run_resets(graph, rows, [0] * len(rows))


def run_resets(graph, rows, resets):
    """Return the outputs of each cycle; behind a cycle with reset bit 1 the state is the initial one."""
    state = initial_state(graph)
    found = []
    for row, reset in zip(rows, resets):
        outputs, state = step(graph, row, state)
        found.append(outputs)
        if reset == 1:
            state = initial_state(graph)
    return found


def _needed(graph):
    """Return for each node whether an output or a next literal needs it."""
    needed = [False] * graph.node_count()
    for literal in graph.outputs:
        needed[literal // 2] = True
    for literal, _ in graph.registers:
        needed[literal // 2] = True
    first = first_and(graph)
    for index in reversed(range(len(graph.ands))):
        if needed[first + index]:
            for literal in graph.ands[index]:
                needed[literal // 2] = True
    return needed


def compact(graph):
    """Return a new graph that has the needed ANDs alone."""
    result = Graph(graph.inputs, initial_state(graph))
    needed = _needed(graph)
    built = [2 * node for node in range(first_and(graph))]
    for a, b in graph.ands:
        # nothing refers to the literal 0 that stands for an AND that is not needed
        wanted = needed[len(built)]
        built.append(result.conjunction(moved(built, a), moved(built, b)) if wanted else 0)
    copy_ends(result, graph, built)
    return result
