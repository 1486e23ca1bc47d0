"""When changes arrive at the nets of a netlist, and the least clock period."""


def _live_pins(netlist, net):
    """Return the pairs (net, delay) of the pins of a gate that are not connected to a constant."""
    index, pins = netlist.gates[net - netlist.first_gate()]
    delays = netlist.library.cells[index].delays
    return [(pin, delay) for pin, delay in zip(pins, delays) if pin > 1]


def arrivals(netlist):
    """Return the latest times at which a change can reach the nets."""
    found = [0] * netlist.first_register()
    found.extend([netlist.library.flop_delay] * len(netlist.registers))
    for net in range(netlist.first_gate(), netlist.net_count()):
        times = [found[pin] + delay for pin, delay in _live_pins(netlist, net)]
        found.append(max(times, default=0))
    return found


def ends(netlist):
    """Return the nets of the next values of the registers, followed by the output nets."""
    return [net for net, _ in netlist.registers] + netlist.outputs


def slacks(netlist, period):
    """Return how much earlier than needed a change arrives at each end."""
    found = arrivals(netlist)
    return [period - netlist.library.setup - found[net] for net in ends(netlist)]


def least_period(netlist):
    """Return the smallest period at which no end has a negative slack."""
    found = arrivals(netlist)
    return netlist.library.setup + max([found[net] for net in ends(netlist)], default=0)


def _net_before(netlist, found, net):
    """Return the net from which the latest change reaches a net, or None if a path begins there."""
    if net < netlist.first_gate():
        return None
    for pin, delay in _live_pins(netlist, net):
        if found[pin] + delay == found[net]:
            return pin
    return None


def critical_path(netlist):
    """Return the nets of a path that determines the least period."""
    found = arrivals(netlist)
    if not ends(netlist):
        return []
    path = [max(ends(netlist), key=lambda net: found[net])]
    before = _net_before(netlist, found, path[0])
    while before is not None:
        path.append(before)
        before = _net_before(netlist, found, before)
    return path[::-1]
