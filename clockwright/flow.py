"""From a design text to a checked netlist with a clock period."""

from clockwright.cells import read_library
from clockwright.compare import compare
from clockwright.cover import cover
from clockwright.delays import run_delayed
from clockwright.errors import Misused
from clockwright.flat import design_of
from clockwright.logic import is_known
from clockwright.netlist import netlist_graph, run_netlist
from clockwright.rewrite import rewritten
from clockwright.synth import synthesize
from clockwright.timing import least_period


class Made:
    """What was made from a design text, with the least period of the netlist."""

    def __init__(self, design, machine, netlist, certificate):
        self.design = design
        self.machine = machine
        self.netlist = netlist
        self.certificate = certificate
        self.period = least_period(netlist)


def build(text, *, top, library, arguments=(), cycles=4, limit=2000):
    """Make a netlist from a design text and the text of a library, and check it."""
    cells = read_library(library)
    design = design_of(text, top=top, arguments=arguments)
    machine = synthesize(design)
    netlist = cover(rewritten(machine.graph), cells)
    answer, found = compare(machine.graph, netlist_graph(netlist), cycles=cycles, limit=limit)
    return Made(design, machine, netlist, found if answer == "equal" else None)


def _row(design, names, vectors):
    """Return the bits of the vectors of one cycle, each vector's least significant one first."""
    if len(vectors) != len(names):
        raise Misused("inputs")
    row = []
    for name, vector in zip(names, vectors):
        if not is_known(vector) or len(vector) != design.width[name]:
            raise Misused("inputs")
        row.extend([int(bit) for bit in vector[::-1]])
    return row


def stimulus_rows(design, stimulus):
    """Return the rows of a stimulus, a list of pairs (reset, inputs)."""
    names = design.inputs()
    return [_row(design, names, vectors) for _, vectors in stimulus]


def output_vectors(design, bits):
    """Return the vectors of the outputs from the output bits of one cycle."""
    found = []
    at = 0
    for name in design.outputs():
        own = bits[at:at + design.width[name]]
        found.append("".join([str(bit) for bit in own[::-1]]))
        at += len(own)
    return tuple(found)


def _later_cycles(made, stimulus):
    """Return the rows and the reset bits from cycle 1 on; cycle 0 gives the registers their initial values."""
    rows = stimulus_rows(made.design, stimulus)
    resets = [reset for reset, _ in stimulus]
    return (rows[1:], resets[1:])


def run_made(made, stimulus):
    """Return the outputs of the cycles from 1 on of a stimulus whose first reset bit is 1."""
    rows, resets = _later_cycles(made, stimulus)
    return [output_vectors(made.design, bits) for bits in run_netlist(made.netlist, rows, resets)]


def run_timed(made, stimulus, period):
    """Return the same, with the delays of the cells at a period."""
    rows, resets = _later_cycles(made, stimulus)
    return [output_vectors(made.design, bits) for bits in run_delayed(made.netlist, rows, resets, period)]
