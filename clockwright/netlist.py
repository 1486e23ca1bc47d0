"""Netlists of library cells and registers, and their texts."""

from clockwright.errors import Malformed, Unbounded
from clockwright.graph import Graph
from clockwright.lines import is_cell_name, is_number, lines_of
from clockwright.rewrite import known_tree

MAX_GATES = 20000
MAX_NUMBER = 999999

# In which order the lines stand behind the first one.
PLACES = {"register": 1, "gate": 2, "output": 3}


class Netlist:
    """Nets that are the constants 0 and 1, inputs, registers and gates, in this order."""

    def __init__(self, library, inputs, registers, gates, outputs):
        self.library = library
        self.inputs = inputs
        self.registers = list(registers)
        self.gates = list(gates)
        self.outputs = list(outputs)

    def net_count(self):
        """Return the number of nets."""
        return self.first_gate() + len(self.gates)

    def first_register(self):
        """Return the net of the first register, or that which it would have."""
        return 2 + self.inputs

    def first_gate(self):
        """Return the net of the first gate, or that which it would have."""
        return self.first_register() + len(self.registers)

    def area(self):
        """Return the sum of the areas of the gates' cells."""
        return sum([self.library.cells[index].area for index, _ in self.gates])

    def initial_state(self):
        """Return the initial values of the registers."""
        return [initial for _, initial in self.registers]

    def net_values(self, row, state):
        """Return the values of all nets in a cycle."""
        found = [0, 1, *row, *state]
        for index, pins in self.gates:
            found.append(self.library.cells[index].output([found[net] for net in pins]))
        return found

    def step(self, row, state):
        """Return the outputs of a cycle and the next state."""
        found = self.net_values(row, state)
        return ([found[net] for net in self.outputs], [found[net] for net, _ in self.registers])


def run_netlist(netlist, rows, resets):
    """Return the outputs of each cycle; behind a cycle with reset bit 1 the state is the initial one."""
    state = netlist.initial_state()
    found = []
    for row, reset in zip(rows, resets):
        outputs, state = netlist.step(row, state)
        found.append(outputs)
        if reset == 1:
            state = netlist.initial_state()
    return found


def netlist_graph(netlist):
    """Return the graph that behaves as the netlist does."""
    graph = Graph(netlist.inputs, netlist.initial_state())
    known = {}
    literals = [0, 1]
    literals.extend([graph.input_literal(index) for index in range(netlist.inputs)])
    literals.extend([graph.register_literal(index) for index in range(len(netlist.registers))])
    for index, pins in netlist.gates:
        table = netlist.library.cells[index].table
        literals.append(known_tree(graph, table, [literals[net] for net in pins], known))
    for index, (net, _) in enumerate(netlist.registers):
        graph.set_next(index, literals[net])
    graph.set_outputs([literals[net] for net in netlist.outputs])
    return graph


def netlist_text(netlist):
    """Return the text of a netlist."""
    lines = [f"inputs {netlist.inputs}\n"]
    for net, initial in netlist.registers:
        lines.append(f"register {net} {initial}\n")
    for index, pins in netlist.gates:
        nets = " ".join([str(net) for net in pins])
        lines.append(f"gate {netlist.library.cells[index].name} {nets}\n")
    for net in netlist.outputs:
        lines.append(f"output {net}\n")
    return "".join(lines)


def _is_net(word):
    return is_number(word, 0, MAX_NUMBER)


def _is_first_line(words):
    return len(words) == 2 and words[0] == "inputs" and _is_net(words[1])


def _is_other_line(words):
    """Tell whether a line has the form of one that may stand behind the first one."""
    if len(words) < 2 or words[0] not in PLACES:
        return False
    if words[0] == "gate":
        return len(words) > 2 and is_cell_name(words[1]) and all([_is_net(word) for word in words[2:]])
    if words[0] == "register":
        return len(words) == 3 and _is_net(words[1]) and words[2] in ("0", "1")
    return len(words) == 2 and _is_net(words[1])


def _add_gate(netlist, at, words):
    """Add the gate of a line to a netlist that is being read."""
    index = netlist.library.cell_named(words[1])
    pins = tuple([int(word) for word in words[2:]])
    if len(pins) != netlist.library.cells[index].pins or max(pins) >= netlist.net_count():
        raise Malformed(at)
    if len(netlist.gates) == MAX_GATES:
        raise Unbounded("gates")
    netlist.gates.append((index, pins))


def _add_line(netlist, at, words):
    if words[0] == "gate":
        _add_gate(netlist, at, words)
    elif words[0] == "register":
        netlist.registers.append((int(words[1]), int(words[2])))
    else:
        netlist.outputs.append(int(words[1]))


def _check_ends(netlist, lines):
    """Check that the nets of the registers, and then those of the outputs, exist."""
    many = netlist.net_count()
    for head in ("register", "output"):
        for at, words in lines:
            if words[0] == head and int(words[1]) >= many:
                raise Malformed(at)


def read_netlist(text, library):
    """Return the netlist that a text writes."""
    lines = lines_of(text)
    if not _is_first_line(lines[0][1]):
        raise Malformed(0)
    netlist = Netlist(library, int(lines[0][1][1]), [], [], [])
    place = 0
    for at, words in lines[1:]:
        if not _is_other_line(words) or PLACES[words[0]] < place:
            raise Malformed(at)
        place = PLACES[words[0]]
        _add_line(netlist, at, words)
    _check_ends(netlist, lines[1:])
    return netlist
