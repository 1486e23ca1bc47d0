"""Certificates, which show that two graphs agree, and their check."""

from clockwright.clauses import clauses_with
from clockwright.errors import Unbounded
from clockwright.graph import Graph, initial_state
from clockwright.refute import check_refutation, is_int, is_sequence
from clockwright.unroll import copy_into, difference


def _is_pair(value):
    return is_sequence(value) and len(value) == 2 and is_int(value[0]) and is_int(value[1])


def _is_claim(classes, initials, index):
    """Tell whether the pair of a register is right, and its initial bit satisfies the claim."""
    leader, flip = classes[index]
    if flip not in (0, 1) or not -1 <= leader <= index:
        return False
    if leader == -1:
        return initials[index] == flip
    if leader == index:
        return flip == 0
    return tuple(classes[leader]) == (leader, 0) and initials[index] == initials[leader] ^ flip


def are_classes(first, second, classes):
    """Tell whether a value of any kind is a list of right classes for the registers of two graphs."""
    initials = initial_state(first) + initial_state(second)
    if not is_sequence(classes) or len(classes) != len(initials):
        return False
    if not all([_is_pair(pair) for pair in classes]):
        return False
    return all([_is_claim(classes, initials, index) for index in range(len(initials))])


def _followed(literals, leader, flip):
    """Return what a register is by its claim, from the literals of all registers."""
    return flip if leader == -1 else literals[leader] ^ flip


def _register_literals(graph, classes):
    found = []
    leaders = 0
    for index, (leader, flip) in enumerate(classes):
        if leader == index:
            found.append(graph.register_literal(leaders))
            leaders += 1
        else:
            found.append(_followed(found, leader, flip))
    return found


class Joint:
    """The joint graph of two graphs, its step and goal literals, and the next literals of all registers."""

    def __init__(self, first, second, classes):
        initials = initial_state(first) + initial_state(second)
        own = [initials[index] for index, (leader, _) in enumerate(classes) if leader == index]
        self.graph = Graph(first.inputs, own)
        literals = _register_literals(self.graph, classes)
        many = len(first.registers)
        inputs = [self.graph.input_literal(index) for index in range(first.inputs)]
        one, first_nexts = copy_into(self.graph, first, inputs, literals[:many])
        two, second_nexts = copy_into(self.graph, second, inputs, literals[many:])
        self.nexts = first_nexts + second_nexts
        claimed = [_followed(self.nexts, leader, flip) for leader, flip in classes]
        # the claim of a leader would compare its next literal with itself, so it is left out
        followers = [index for index, (leader, _) in enumerate(classes) if leader != index]
        self.step_literal = difference(
            self.graph, [self.nexts[index] for index in followers], [claimed[index] for index in followers])
        outputs = difference(self.graph, one, two)
        self.goal_literal = self.graph.disjunction(self.step_literal, outputs)


def joint(first, second, classes):
    """Return the joint graph for right classes, its step literal, and its goal literal."""
    found = Joint(first, second, classes)
    return (found.graph, found.step_literal, found.goal_literal)


def have_same_ports(first, second):
    """Tell whether two graphs have as many inputs and as many outputs."""
    return first.inputs == second.inputs and len(first.outputs) == len(second.outputs)


def certify(first, second, certificate):
    """Tell whether a value of any kind is a certificate that the graphs agree."""
    if not is_sequence(certificate) or len(certificate) != 2 or not have_same_ports(first, second):
        return False
    classes, refutation = certificate
    if not are_classes(first, second, classes):
        return False
    try:
        found = Joint(first, second, classes)
    except Unbounded:
        return False
    return check_refutation(clauses_with(found.graph, found.goal_literal), refutation)
