"""Libraries of cells, and their texts."""

from clockwright.errors import Malformed, Twice, Unbounded, Uncovered, Unknown
from clockwright.lines import consists_of, is_cell_name, is_number, lines_of
from clockwright.table import connect, value_at

MAX_CELLS = 32
MAX_TIME = 99
MAX_AREA = 9999

# How many pins a cell with so many values has.
PINS = {2: 1, 4: 2, 8: 3, 16: 4}


class Cell:
    """A cell with its table over its pins, its area, and one delay for each pin."""

    def __init__(self, name, table, pins, area, delays):
        self.name = name
        self.table = table
        self.pins = pins
        self.area = area
        self.delays = tuple(delays)

    def output(self, values):
        """Return the value of the cell for the values of its pins."""
        row = sum([bit << pin for pin, bit in enumerate(values)])
        return value_at(self.table, row)


def pin_ways(count):
    """Return all ways to give each pin a literal of a variable of its own, in ascending order."""
    found = [()]
    for _ in range(count):
        found = [
            way + (literal,) for way in found for literal in range(2 * count)
            if literal not in way and literal ^ 1 not in way
        ]
    return found


class Library:
    """The cells from which netlists are built, and the times of the register."""

    def __init__(self, cells, setup, flop_delay):
        self.cells = list(cells)
        self.setup = setup
        self.flop_delay = flop_delay

    def cell_named(self, name):
        """Return the index of the cell with this name."""
        for index, cell in enumerate(self.cells):
            if cell.name == name:
                return index
        raise Unknown(name)

    def inverter(self):
        """Return the index of the first inverter with the smallest area."""
        found = [(cell.area, index) for index, cell in enumerate(self.cells) if _is_inverter(cell)]
        if not found:
            raise Uncovered("inverter")
        return min(found)[1]

    def is_complete(self):
        """Tell whether the cells suffice for every function."""
        return any([_is_inverter(cell) for cell in self.cells]) and any([_is_gate(cell) for cell in self.cells])

    def bindings(self, table, count):
        """Return all bindings of a table, in ascending order."""
        found = pin_ways(count)
        return [
            (index, way) for index, cell in enumerate(self.cells) if cell.pins == count
            for way in found if connect(cell.table, way, count) == table
        ]


def _is_inverter(cell):
    return cell.pins == 1 and cell.table == 1


def _values_of(cell):
    return [value_at(cell.table, row) for row in range(1 << cell.pins)]


def _is_gate(cell):
    return cell.pins == 2 and sum(_values_of(cell)) in (1, 3)


def _is_flop_line(words):
    if len(words) != 3 or words[0] != "flop":
        return False
    return is_number(words[1], 1, MAX_TIME) and is_number(words[2], 0, MAX_TIME)


def _is_cell_line(words):
    if len(words) < 4 or words[0] != "cell" or not is_cell_name(words[1]):
        return False
    if len(words[2]) not in PINS or not consists_of(words[2], "01") or not is_number(words[3], 1, MAX_AREA):
        return False
    delays = words[4:]
    return len(delays) == PINS[len(words[2])] and all([is_number(word, 1, MAX_TIME) for word in delays])


def _cell_of(words):
    """Return the cell of a line that is well formed."""
    table = sum([int(bit) << row for row, bit in enumerate(words[2])])
    delays = [int(word) for word in words[4:]]
    return Cell(words[1], table, len(delays), int(words[3]), delays)


def read_library(text):
    """Return the library that a text writes."""
    cells = []
    seen = {}
    lines = lines_of(text)
    if not _is_flop_line(lines[0][1]):
        raise Malformed(0)
    for at, words in lines[1:]:
        if not _is_cell_line(words):
            raise Malformed(at)
        if words[1] in seen:
            raise Twice(words[1])
        if len(cells) == MAX_CELLS:
            raise Unbounded("cells")
        seen[words[1]] = True
        cells.append(_cell_of(words))
    flop = lines[0][1]
    return Library(cells, int(flop[1]), int(flop[2]))


def library_text(library):
    """Return the text of a library."""
    lines = [f"flop {library.setup} {library.flop_delay}\n"]
    for cell in library.cells:
        values = "".join([str(bit) for bit in _values_of(cell)])
        delays = " ".join([str(delay) for delay in cell.delays])
        lines.append(f"cell {cell.name} {values} {cell.area} {delays}\n")
    return "".join(lines)
