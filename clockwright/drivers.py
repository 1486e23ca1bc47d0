"""The sources of the bits of a design, and the order in which its parts are built."""

from heapq import heappop, heappush

from clockwright.errors import Circular, Undriven
from clockwright.logic import is_known
from clockwright.tree import children, writes, written_by


def _bits_of_name(design, name):
    return [(name, index) for index in range(design.width[name])]


def _has_known_index(tree):
    return tree[2][0] == "lit" and is_known(tree[2][1])


def _named_bits(design, tree):
    """Return the bits of a name, a part, or a pick with a known literal index.

    There is none if the index is too great.
    """
    bits = _bits_of_name(design, tree[1])
    if tree[0] == "part":
        return bits[tree[3]:tree[2] + 1]
    if tree[0] == "pick":
        index = int(tree[2][1], 2)
        return bits[index:index + 1]
    return bits


def target_bits(design, target):
    """Return the bits of a target whose indexes are literals, from the least significant one on."""
    if target[0] != "cat":
        return _named_bits(design, target)
    found = []
    for inner in reversed(target[1]):
        found.extend(target_bits(design, inner))
    return found


def _note(bits, found):
    for bit in bits:
        found[bit] = True


def _find_index_reads(design, target, found):
    if target[0] == "cat":
        for inner in target[1]:
            _find_index_reads(design, inner, found)
    elif target[0] == "pick":
        _find_reads(design, target[2], found)


def _find_reads(design, tree, found):
    """Note the bits that an expression or a statement reads as keys of a dict."""
    head = tree[0]
    if head in ("set", "next"):
        _find_reads(design, tree[2], found)
        _find_index_reads(design, tree[1], found)
    elif head == "pick" and not _has_known_index(tree):
        _find_reads(design, tree[2], found)
        _note(_bits_of_name(design, tree[1]), found)
    elif head in ("ref", "pick", "part"):
        _note(_named_bits(design, tree), found)
    else:
        for child in children(tree):
            _find_reads(design, child, found)


def expression_reads(design, expression):
    """Return the bits that an expression reads, each once."""
    found = {}
    _find_reads(design, expression, found)
    return list(found)


def block_reads(design, block):
    """Return the bits that a block reads, each once."""
    found = {}
    for statement in block:
        _find_reads(design, statement, found)
    return list(found)


def assigned_names(block):
    """Return the names that a block assigns, each once, in the order of the text."""
    return written_by(block)


def check_sources(design):
    """Refuse a design in which a bit of a signal has no source."""
    driven = {}
    for target, _ in design.drives:
        _note(target_bits(design, target), driven)
    assigned = {}
    for block in design.whens + design.ticks:
        _note(assigned_names(block), assigned)
    for name in design.names:
        kind = design.kind[name]
        if kind in ("var", "reg") and name not in assigned:
            raise Undriven(name)
        if kind in ("wire", "out") and not all([bit in driven for bit in _bits_of_name(design, name)]):
            raise Undriven(name)


def _node_names(design, node):
    kind, index = node
    if kind == "drive":
        return writes(design.drives[index][0])
    return assigned_names(design.whens[index])


def _assigned_bits(design, node):
    kind, index = node
    if kind == "drive":
        return target_bits(design, design.drives[index][0])
    return [bit for name in _node_names(design, node) for bit in _bits_of_name(design, name)]


def _read_bits(design, node):
    kind, index = node
    if kind == "drive":
        return expression_reads(design, design.drives[index][1])
    own = _node_names(design, node)
    return [bit for bit in block_reads(design, design.whens[index]) if bit[0] not in own]


def _dependencies(design, nodes):
    """Return for each node the numbers of the nodes on which it depends, as the keys of a dict."""
    makers = {}
    for number, node in enumerate(nodes):
        for bit in _assigned_bits(design, node):
            makers.setdefault(bit, []).append(number)
    found = []
    for node in nodes:
        needed = {}
        for bit in _read_bits(design, node):
            _note(makers.get(bit, ()), needed)
        found.append(needed)
    return found


def _taken_in_order(needed):
    """Return the numbers of the nodes that can be taken, always the least one first."""
    missing = [len(numbers) for numbers in needed]
    followers = [[] for _ in needed]
    for number, others in enumerate(needed):
        for other in others:
            followers[other].append(number)
    # in ascending order, so it is a heap
    free = [number for number, many in enumerate(missing) if many == 0]
    taken = []
    while free:
        number = heappop(free)
        taken.append(number)
        for follower in followers[number]:
            missing[follower] -= 1
            if missing[follower] == 0:
                heappush(free, follower)
    return taken


def build_order(design):
    """Return the drives and when processes in an order in which they can be built."""
    nodes = [("drive", index) for index in range(len(design.drives))]
    nodes = nodes + [("when", index) for index in range(len(design.whens))]
    taken = _taken_in_order(_dependencies(design, nodes))
    if len(taken) == len(nodes):
        return [nodes[number] for number in taken]
    left = [node for number, node in enumerate(nodes) if number not in taken]
    # what assigns nothing may depend on a cycle, but is in none
    names = [name for node in left for name in _node_names(design, node)]
    raise Circular(names[0])
