"""The state of one elaboration."""

from clockwright.design import Design
from clockwright.errors import Driven, Twice, Unbounded

MAX_COUNTED = 2000
MAX_SIGNALS = 200


class Build:
    """The units, the design that grows, and what its limits and rules need to know."""

    def __init__(self, units):
        self.units = units
        self.design = Design()
        self.counted = 0
        # the flat names of signals and functions
        self.claimed = {}
        # the bits (flat name, index) of wires and outs that have a driver
        self.driven = {}
        # the flat names of vars and regs that a process assigns
        self.assigned = {}
        # for each function the length of the longest chain of calls that it starts
        self.chains = {}

    def tally(self):
        """Count a thing that is about to be elaborated."""
        if self.counted == MAX_COUNTED:
            raise Unbounded("items")
        self.counted += 1

    def claim(self, flat, name):
        """Reserve a flat name for a signal or a function that the text calls by the name."""
        if flat in self.claimed:
            raise Twice(name)
        self.claimed[flat] = True

    def add_signal(self, flat, name, kind, width):
        """Add a signal to the design."""
        self.claim(flat, name)
        design = self.design
        if len(design.names) == MAX_SIGNALS:
            raise Unbounded("signals")
        design.names.append(flat)
        design.kind[flat] = kind
        design.width[flat] = width

    def add_drive(self, target, tree):
        """Add a drive of a flat target by a flat expression."""
        self._drive_bits(target)
        self.design.drives.append((target, tree))

    def _drive_bits(self, target):
        if target[0] == "cat":
            for inner in target[1]:
                self._drive_bits(inner)
            return
        name = target[1]
        low, high = self._bounds(target)
        for index in range(low, high + 1):
            if (name, index) in self.driven:
                raise Driven(name)
            self.driven[(name, index)] = True

    def _bounds(self, target):
        if target[0] == "part":
            return (target[3], target[2])
        if target[0] == "pick":
            index = int(target[2][1], 2)
            return (index, index)
        return (0, self.design.width[target[1]] - 1)

    def assign_names(self, names):
        """Note that one process assigns these vars or regs."""
        for name in names:
            if name in self.assigned:
                raise Driven(name)
        for name in names:
            self.assigned[name] = True
