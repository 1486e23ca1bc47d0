"""Libraries and netlists that are drawn by a generator with a fixed seed."""

import random

from clockwright.cells import Cell, Library
from clockwright.netlist import Netlist


def drawn_library(seed, cells=6, most_pins=4, longest=9, setup=None):
    """A library that is not always complete."""
    drawn = random.Random(seed)
    made = []
    for index in range(cells):
        pins = drawn.randint(1, most_pins)
        delays = tuple(drawn.randint(1, longest) for _ in range(pins))
        made.append(Cell(f"c{index}", drawn.randrange(2 ** 2 ** pins), pins, drawn.randint(1, 30), delays))
    return Library(made, setup or drawn.randint(1, 5), drawn.randint(0, 5))


def complete_library(seed, cells=5, most_pins=4, longest=9):
    """A library with an inverter and a sufficient gate, at drawn places."""
    drawn = random.Random(seed)
    library = drawn_library(seed, cells, most_pins, longest)
    made = library.cells
    made.insert(drawn.randint(0, len(made)), Cell("inv", 1, 1, drawn.randint(1, 9), (drawn.randint(1, longest),)))
    table = drawn.choice((1, 2, 4, 8, 7, 11, 13, 14))
    delays = (drawn.randint(1, longest), drawn.randint(1, longest))
    made.insert(drawn.randint(0, len(made)), Cell("gate", table, 2, drawn.randint(1, 20), delays))
    return library


def drawn_netlist(seed, library=None, inputs=3, registers=2, gates=10, outputs=3):
    """A netlist whose nets may be connected to any earlier one, constants included."""
    drawn = random.Random(seed)
    if library is None:
        library = drawn_library(seed)
    first = 2 + inputs + registers
    made = []
    for place in range(gates):
        index = drawn.randrange(len(library.cells))
        made.append((index, tuple(drawn.randrange(first + place) for _ in range(library.cells[index].pins))))
    nets = first + gates
    ends = [(drawn.randrange(nets), drawn.randrange(2)) for _ in range(registers)]
    return Netlist(library, inputs, ends, made, [drawn.randrange(nets) for _ in range(outputs)])


def netlist_fields(netlist):
    return (netlist.inputs, list(netlist.registers), list(netlist.gates), list(netlist.outputs))


def drawn_rows(seed, netlist, many, often=3):
    """Rows, and reset bits that are 1 in one of so many cycles."""
    drawn = random.Random(seed)
    rows = [[drawn.randrange(2) for _ in range(netlist.inputs)] for _ in range(many)]
    return rows, [int(drawn.randrange(often) == 0) for _ in range(many)]
