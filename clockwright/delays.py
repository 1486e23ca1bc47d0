"""What a netlist does in time, with the delays of its cells."""

from heapq import heappop, heappush

from clockwright.errors import Unbounded

MOST_CHANGES = 1000


def _readers(netlist):
    """Return for each net the triples (gate's net, number of the pin, delay) of the pins that read it."""
    found = [[] for _ in range(netlist.net_count())]
    for place, (index, pins) in enumerate(netlist.gates):
        delays = netlist.library.cells[index].delays
        for pin, net in enumerate(pins):
            found[net].append((netlist.first_gate() + place, pin, delays[pin]))
    return found


class Waves:
    """The values of the nets at a time that goes on, and the changes that are still to come."""

    def __init__(self, netlist, row, state):
        self.netlist = netlist
        self.nets = netlist.net_values(row, state)
        self._readers = _readers(netlist)
        # the values at the pins of each gate, as the gate sees them at this time
        self._seen = [[self.nets[net] for net in pins] for _, pins in netlist.gates]
        # quadruples (time, net, pin, value): a pin of the net's gate has the value from this time on;
        # an input or a register has no gate, and takes the value itself
        self._coming = []

    def plan_sources(self, first, values, time):
        """Give the inputs or registers from the net first on these values from a time on."""
        for place, worth in enumerate(values):
            heappush(self._coming, (time, first + place, 0, worth))

    def time_of_next(self):
        """Return the time of the next thing to come, or None if there is none."""
        return self._coming[0][0] if self._coming else None

    def _arrive(self, time):
        """Let all things of a time come, and return the new values of the nets that they concern."""
        found = {}
        gates = {}
        while self._coming and self._coming[0][0] == time:
            _, net, pin, worth = heappop(self._coming)
            place = net - self.netlist.first_gate()
            if place < 0:
                found[net] = worth
            else:
                self._seen[place][pin] = worth
                gates[place] = True
        for place in gates:
            cell = self.netlist.library.cells[self.netlist.gates[place][0]]
            found[self.netlist.first_gate() + place] = cell.output(self._seen[place])
        return found

    def advance(self):
        """Go on to the next time at which something comes; return triples (net, time, value) of what changed."""
        time = self.time_of_next()
        arrived = self._arrive(time)
        changed = []
        for net, worth in arrived.items():
            if worth != self.nets[net]:
                self.nets[net] = worth
                changed.append((net, time, worth))
                for gate, pin, delay in self._readers[net]:
                    heappush(self._coming, (time + delay, gate, pin, worth))
        return changed

    def advance_to(self, time):
        """Let everything come that comes at this time or before."""
        while self._coming and self._coming[0][0] <= time:
            self.advance()


def run_delayed(netlist, rows, resets, period):
    """Return the outputs of each cycle with the delays of the cells, at a period of at least 1."""
    if not rows:
        return []
    library = netlist.library
    state = netlist.initial_state()
    waves = Waves(netlist, rows[0], state)
    found = []
    for cycle, (row, reset) in enumerate(zip(rows, resets)):
        start = cycle * period
        waves.plan_sources(2, row, start)
        waves.plan_sources(netlist.first_register(), state, start + library.flop_delay)
        # all that is planned later comes behind this time, even if the period is less than setup
        waves.advance_to(start + period - library.setup)
        found.append([waves.nets[net] for net in netlist.outputs])
        state = [waves.nets[net] for net, _ in netlist.registers]
        if reset == 1:
            state = netlist.initial_state()
    return found


def changes(netlist, old_row, old_state, new_row, new_state):
    """Return the changes of each net behind a single change of the inputs and registers."""
    waves = Waves(netlist, old_row, old_state)
    waves.plan_sources(2, new_row, 0)
    waves.plan_sources(netlist.first_register(), new_state, netlist.library.flop_delay)
    found = [[] for _ in range(netlist.net_count())]
    while waves.time_of_next() is not None:
        for net, time, worth in waves.advance():
            if len(found[net]) == MOST_CHANGES:
                raise Unbounded("changes")
            found[net].append((time, worth))
    return found
