"""Points CE1, CE2, and CO1 to CO3 read word by word."""

from clockwright.clauses import graph_clauses, term_of
from clockwright.errors import Unbounded
from clockwright.graph import Graph
from clockwright.unroll import copy_into, difference, rows_of, unroll
from solver_by_the_document import plain_solve


def initials_of(first, second):
    return [initial for graph in (first, second) for _, initial in graph.registers]


def pair_is_right(pairs, initials, i):
    leader, flip = pairs[i]
    if leader == i:
        return flip == 0
    if 0 <= leader < i and flip in (0, 1):
        return list(pairs[leader]) == [leader, 0] and initials[i] == (initials[leader] + flip) % 2
    if leader == -1 and flip in (0, 1):
        return initials[i] == flip
    return False


def drawn_classes(drawn, initials):
    """Right classes for registers with these initial bits."""
    classes = []
    for index, initial in enumerate(initials):
        leaders = [i for i, (leader, _) in enumerate(classes) if leader == i]
        form = drawn.randrange(3)
        if form == 0:
            classes.append((-1, initial))
        elif form == 1 and leaders:
            leader = drawn.choice(leaders)
            classes.append((leader, initial ^ initials[leader]))
        else:
            classes.append((index, 0))
    return classes


def joint_with_nexts(first, second, pairs):
    """The joint graph, the step and the goal literal, and the next literals of all registers."""
    leaders = [i for i, pair in enumerate(pairs) if pair[0] == i]
    initials = initials_of(first, second)
    graph = Graph(first.inputs, [initials[i] for i in leaders])
    own = {i: graph.register_literal(place) for place, i in enumerate(leaders)}
    literals = [flip if leader == -1 else own[leader] ^ flip for leader, flip in pairs]
    inputs = [graph.input_literal(index) for index in range(first.inputs)]
    one, nexts = copy_into(graph, first, inputs, literals[:len(nexts_of(first))])
    two, others = copy_into(graph, second, inputs, literals[len(nexts_of(first)):])
    nexts = nexts + others
    left, right = [], []
    for i, (leader, flip) in enumerate(pairs):
        if leader != i:
            left.append(nexts[i])
            right.append(flip if leader == -1 else nexts[leader] ^ flip)
    step = difference(graph, left, right)
    other = difference(graph, one, two)
    return graph, step, graph.disjunction(step, other), nexts


def nexts_of(graph):
    return [literal for literal, _ in graph.registers]


def plain_refine(pairs, bits):
    bit = [bits[i] ^ flip for i, (_, flip) in enumerate(pairs)]
    result = [None] * len(pairs)
    leaving = {}
    for i, (leader, flip) in enumerate(pairs):
        keeps = bit[i] == 0 if leader == -1 else leader == i or bit[i] == bit[leader]
        if keeps:
            result[i] = (leader, flip)
        else:
            leaving.setdefault(leader, []).append(i)
    for members in leaving.values():
        first = members[0]
        for i in members:
            result[i] = (first, 0 if i == first else pairs[i][1] ^ pairs[first][1])
    return result


def decide(graph, literal, limit):
    return plain_solve(graph_clauses(graph) + [(term_of(literal),)], graph.node_count(), limit)


def plain_compare(first, second, cycles, limit):
    try:
        return compared(first, second, cycles, limit)
    except Unbounded:
        return ("unknown", None)


def compared(first, second, cycles, limit):
    pairs = [(-1, initial) for initial in initials_of(first, second)]
    while True:
        graph, step, goal, nexts = joint_with_nexts(first, second, pairs)
        answer, found = decide(graph, step, limit)
        if answer != "model":
            break
        pairs = plain_refine(pairs, [found[literal // 2] ^ (literal % 2) for literal in nexts])
    if answer == "unknown":
        return (answer, None)
    answer, found = decide(graph, goal, limit)
    if answer == "unknown":
        return (answer, None)
    if answer == "refuted":
        return ("equal", (pairs, found))
    for many in range(1, cycles + 1):
        graph, literal = unroll(first, second, many)
        answer, found = decide(graph, literal, limit)
        if answer == "model":
            return ("different", rows_of(found, first.inputs, many))
        if answer == "unknown":
            return (answer, None)
    return ("unknown", None)
