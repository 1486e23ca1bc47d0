"""Simulation of flat designs with four-valued signals, cycle by cycle."""

from clockwright.errors import Misused, Unsettled
from clockwright.evaluate import assign, run_tick, run_when, store, unknown, value
from clockwright.events import Choices, Ready, order
from clockwright.logic import resize
from clockwright.tree import reads, written_by

SETTLE = 2000
MAX_WIDTH = 64


def _first_values(design):
    """Return the values at the start: z in the bits that nothing drives, and x in all others."""
    values = {}
    for name in design.names:
        bit = "z" if design.kind[name] in ("wire", "out") else "x"
        values[name] = bit * design.width[name]
    for target, _ in design.drives:
        # this vector is at least as wide as the target, and is cut to its width
        assign(design, values, target, unknown(MAX_WIDTH))
    return values


def _names_read_by(block):
    written = written_by(block)
    return [name for statement in block for name in reads(statement) if name not in written]


def _readers(design):
    """Return for each name the numbers of the things that read it."""
    found = {}
    names_read = [reads(expression) for _, expression in design.drives]
    names_read = names_read + [_names_read_by(block) for block in design.whens]
    for thing, names in enumerate(names_read):
        for name in names:
            found.setdefault(name, []).append(thing)
    return found


class Simulation:
    """One run of a design; the things are its drives, followed by its when processes."""

    def __init__(self, design, *, choices=()):
        self.state = _first_values(design)
        self.cycle = 0
        self._design = design
        self._choices = Choices(choices)
        self._readers = _readers(design)
        self._ready = Ready(list(range(len(design.drives) + len(design.whens))))

    def _wake_readers(self, names):
        for name in names:
            for thing in self._readers.get(name, ()):
                self._ready.add(thing)

    def _run_thing(self, thing):
        """Run a thing, and return the names that changed."""
        design = self._design
        if thing >= len(design.drives):
            return run_when(design, self.state, design.whens[thing - len(design.drives)])
        target, expression = design.drives[thing]
        return assign(design, self.state, target, value(design, self.state, expression))

    def settle(self):
        """Run things until none is ready, and return how many ran."""
        many = 0
        while len(self._ready) > 0:
            if many == SETTLE:
                raise Unsettled(self.cycle)
            self._wake_readers(self._run_thing(self._ready.take(self._choices)))
            many += 1
        return many

    def _reset_registers(self):
        for name in self._design.registers():
            self.state[name] = self._design.reset[name]

    def _run_ticks(self):
        ticks = self._design.ticks
        recorded = {}
        for number in order(len(ticks), self._choices):
            recorded[number] = run_tick(self._design, self.state, ticks[number])
        for number in order(len(ticks), self._choices):
            for place, vector in recorded[number]:
                store(self.state, place, vector)

    def edge(self, *, reset):
        """Give the registers their next values, or their reset values."""
        before = {name: self.state[name] for name in self._design.registers()}
        if reset == 1:
            self._reset_registers()
        else:
            self._run_ticks()
        self._wake_readers([name for name in before if self.state[name] != before[name]])

    def _set_inputs(self, names, vectors):
        changed = []
        for name, vector in zip(names, vectors):
            fitting = resize(vector, width=self._design.width[name])
            if fitting != self.state[name]:
                self.state[name] = fitting
                changed.append(name)
        self._wake_readers(changed)

    def run_cycle(self, inputs, *, reset):
        """Run the next cycle, and return the vectors of its outputs."""
        names = self._design.inputs()
        if len(inputs) != len(names):
            raise Misused("inputs")
        self._set_inputs(names, inputs)
        self.settle()
        outputs = tuple([self.state[name] for name in self._design.outputs()])
        self.edge(reset=reset)
        self.cycle += 1
        return outputs


def simulate(design, stimulus, *, choices=()):
    """Return the outputs of each cycle of a stimulus, a list of pairs (reset, inputs)."""
    simulation = Simulation(design, choices=choices)
    outputs = []
    for reset, inputs in stimulus:
        outputs.append(simulation.run_cycle(inputs, reset=reset))
    return outputs
