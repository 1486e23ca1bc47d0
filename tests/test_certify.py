import itertools
import random
import unittest

from clockwright.certify import are_classes, certify, joint
from clockwright.clauses import graph_clauses, term_of
from clockwright.compare import compare
from clockwright.cover import cover
from clockwright.graph import Graph, node_values, run_resets, step
from clockwright.netlist import netlist_graph
from clockwright.solver import solve
from agreement_by_the_document import drawn_classes, joint_with_nexts, pair_is_right
from drawn_graphs import bits, drawn_graph, fields
from drawn_netlists import complete_library
from helpers import failure

WRONG_KINDS = (None, True, False, 0, 1, -1, "", "ab", (), [], {}, {0: 0, 1: 0}, [None], ["a", "b"], ([], {}, 1), (0, 0))


def registers(*initials, inputs=1):
    return Graph(inputs, list(initials))


def pair():
    """Two graphs that agree; the register of the second one is the negation of that of the first."""
    one = Graph(1, [0])
    one.set_next(0, 2)
    one.set_outputs([4])
    two = Graph(1, [1])
    two.set_next(0, 3)
    two.set_outputs([5])
    return one, two


RIGHT = ([(0, 0), (0, 1)], [((), [0, 1])])


class ClassesTest(unittest.TestCase):
    def check(self, expected, initials, classes):
        for split in range(len(initials) + 1):
            first, second = registers(*initials[:split]), registers(*initials[split:])
            self.assertIs(are_classes(first, second, classes), expected, (initials, classes))

    def test_a_register_that_is_its_own_leader(self):
        for initial in (0, 1):
            self.check(True, [initial], [(0, 0)])
            self.check(False, [initial], [(0, 1)])
            self.check(True, [initial, 1], [(0, 0), (1, 0)])
            self.check(False, [initial, 1], [(0, 0), (1, 1)])

    def test_a_register_that_follows_another_one(self):
        for one, two in itertools.product((0, 1), repeat=2):
            self.check(one == two, [one, two], [(0, 0), (0, 0)])
            self.check(one != two, [one, two], [(0, 0), (0, 1)])

    def test_a_register_that_is_constant(self):
        for initial, flip in itertools.product((0, 1), repeat=2):
            self.check(initial == flip, [initial], [(-1, flip)])
            self.check(initial == flip, [0, initial], [(0, 0), (-1, flip)])

    def test_leaders_that_are_not_their_own_leaders(self):
        self.check(False, [0, 0, 0], [(0, 0), (0, 0), (1, 0)])
        self.check(False, [0, 0, 0], [(-1, 0), (0, 0), (2, 0)])
        self.check(False, [0, 0], [(-1, 0), (0, 0)])
        self.check(False, [0, 1], [(0, 1), (0, 0)])
        self.check(False, [0, 1], [(0, 1), (0, 1)])
        self.check(True, [0, 0, 0], [(0, 0), (1, 0), (1, 0)])

    def test_other_leaders(self):
        self.check(False, [0, 0], [(1, 0), (1, 0)])
        self.check(False, [0, 0], [(0, 0), (2, 0)])
        for leader in (-2, -3, 1, 2, 10 ** 20, -10 ** 20):
            self.check(False, [0], [(leader, 0)])

    def test_flips_that_are_no_bits(self):
        for flip in (-1, 2, 3, 10 ** 20):
            self.check(False, [0], [(0, flip)])
            self.check(False, [0], [(-1, flip)])
            self.check(False, [1, 1], [(0, 0), (0, flip)])

    def test_no_registers(self):
        self.check(True, [], [])
        self.check(True, [], ())
        self.check(False, [], [(-1, 0)])

    def test_other_numbers_of_pairs(self):
        self.check(False, [0, 0], [])
        self.check(False, [0, 0], [(0, 0)])
        self.check(False, [0, 0], [(0, 0), (1, 0), (2, 0)])

    def test_lists_and_tuples(self):
        for outer, inner in itertools.product((list, tuple), repeat=2):
            self.check(True, [0, 1, 1], outer([inner((0, 0)), inner((0, 1)), inner((-1, 1))]))

    def test_every_kind_of_value(self):
        for value in WRONG_KINDS:
            self.check(False, [0, 0, 0, 0], value)
            if value != (0, 0):
                self.check(False, [0], [value])
                self.check(False, [0, 0], [(0, 0), value])
            if value not in (0, -1) or isinstance(value, bool):
                self.check(False, [0], [(value, 0)])
            if value != 0 or isinstance(value, bool):
                self.check(False, [0], [(0, value)])
                self.check(False, [0], [(value, value)])
        for value in ((0,), (0, 0, 0), [0], "00", {0: 0}, {0, 0}):
            if not isinstance(value, set):
                self.check(False, [0], [value])

    def test_true_and_false_are_no_integers(self):
        self.check(False, [0, 0], [(False, 0), (1, 0)])
        self.check(False, [0, 0], [(0, 0), (True, 0)])
        self.check(False, [0, 0], [(0, 0), (False, False)])
        self.check(False, [1], [(-1, True)])
        self.check(False, [0, 0], [(0, False), (0, 0)])

    def test_all_small_classes(self):
        pairs = [(leader, flip) for leader in (-2, -1, 0, 1, 2, 3) for flip in (0, 1, 2)]
        for initials in ([0, 0], [0, 1], [1, 0], [1, 1]):
            for classes in itertools.product(pairs, repeat=2):
                expected = all(pair_is_right(classes, initials, i) for i in range(2))
                self.assertIs(are_classes(registers(initials[0]), registers(initials[1]), classes), expected)

    def test_arguments_do_not_change(self):
        classes = [[0, 0], [0, 1]]
        are_classes(registers(0), registers(1), classes)
        self.assertEqual(classes, [[0, 0], [0, 1]])


class JointTest(unittest.TestCase):
    def test_the_example(self):
        one, two = pair()
        self.assertEqual(joint(one, two, RIGHT[0])[1:], (0, 0))
        self.assertIs(certify(one, two, RIGHT), True)

    def test_by_hand(self):
        one, two = pair()
        graph, step_literal, goal = joint(one, two, [(-1, 0), (1, 0)])
        # the first register is 0, so its next literal 2 is compared with 0, and the output 0 with the inverted register
        self.assertEqual((graph.inputs, graph.registers, graph.outputs), (1, [(4, 1)], []))
        self.assertEqual((graph.ands, step_literal, goal), ([(3, 4)], 2, 7))
        graph, step_literal, goal = joint(one, two, [(0, 0), (1, 0)])
        # nothing is claimed, so the outputs alone are compared: the registers 4 and 6, which is inverted
        self.assertEqual((graph.registers, graph.ands), ([(4, 0), (6, 1)], [(4, 6), (5, 7), (9, 11)]))
        self.assertEqual((step_literal, goal), (0, 13))
        graph, step_literal, goal = joint(one, two, [(-1, 0), (-1, 1)])
        # the next literals 2 and 3 are compared with 0 and 1
        self.assertEqual((graph.registers, graph.ands, step_literal, goal), ([], [], 2, 2))

    def test_values_by_the_claims(self):
        for seed in range(60):
            drawn = random.Random(seed)
            one = drawn_graph(seed, inputs=2, registers=seed % 3, ands=7, outputs=2)
            two = drawn_graph(seed + 500, inputs=2, registers=seed % 4, ands=7, outputs=2)
            initials = [initial for source in (one, two) for _, initial in source.registers]
            classes = drawn_classes(drawn, initials)
            self.assertIs(are_classes(one, two, classes), True)
            before = fields(one), fields(two), list(classes)
            graph, step_literal, goal = joint(one, two, classes)
            self.assertEqual((fields(one), fields(two), classes), before)
            leaders = [i for i, (leader, _) in enumerate(classes) if leader == i]
            self.assertEqual(graph.registers, [(2 * (3 + place), initials[i]) for place, i in enumerate(leaders)])
            self.assertEqual((graph.inputs, graph.outputs), (2, []))
            for row in bits(2):
                for state in bits(len(leaders)):
                    self.check_values(one, two, classes, (graph, step_literal, goal), row, dict(zip(leaders, state)))

    def check_values(self, one, two, classes, found, row, own):
        graph, step_literal, goal = found
        state = [flip if leader == -1 else own[leader] ^ flip for leader, flip in classes]
        middle = len(one.registers)
        first, second = step(one, row, state[:middle]), step(two, row, state[middle:])
        after = first[1] + second[1]
        broken = any(after[i] != (flip if leader == -1 else after[leader] ^ flip)
                     for i, (leader, flip) in enumerate(classes) if leader != i)
        values = node_values(graph, row, list(own.values()))
        self.assertEqual(values[step_literal // 2] ^ (step_literal % 2), int(broken))
        self.assertEqual(values[goal // 2] ^ (goal % 2), int(broken or first[0] != second[0]))

    def test_the_graph_by_the_document(self):
        for seed in range(60):
            one = drawn_graph(seed, inputs=2, registers=1 + seed % 3, ands=9, outputs=seed % 3)
            two = drawn_graph(seed + 500, inputs=2, registers=seed % 4, ands=9, outputs=seed % 3)
            initials = [initial for source in (one, two) for _, initial in source.registers]
            classes = drawn_classes(random.Random(seed), initials)
            graph, step_literal, goal, _ = joint_with_nexts(one, two, classes)
            found = joint(one, two, tuple(list(one) for one in classes))
            self.assertEqual((fields(found[0]), *found[1:]), (fields(graph), step_literal, goal))
            self.assertIsInstance(found, tuple)

    def test_too_many_nodes(self):
        one, two = registers(*[0] * 2000), registers(*[0] * 1998)
        own = [(index, 0) for index in range(3998)]
        self.assertIsNone(failure(joint, one, two, own))
        self.assertEqual(failure(joint, one, registers(*[0] * 1999), own + [(3998, 0)]), ("Unbounded", "graph"))
        self.assertIsNone(failure(joint, one, registers(*[0] * 1999), own + [(-1, 0)]))


class CertifyTest(unittest.TestCase):
    def clauses(self, one, two, classes):
        graph, _, goal = joint(one, two, classes)
        return graph_clauses(graph) + [(term_of(goal),)], graph.node_count()

    def test_graphs_that_do_not_agree_have_no_certificate(self):
        one, two = pair()
        two.set_outputs([4])
        for classes in ([(0, 0), (0, 1)], [(0, 0), (1, 0)], [(-1, 0), (-1, 1)], [(0, 0), (-1, 1)], [(-1, 0), (1, 0)]):
            answer, _ = solve(*self.clauses(one, two, classes), 100)
            self.assertEqual(answer, "model")
            self.assertIs(certify(one, two, (classes, [((), [0, 1])])), False)

    def test_a_wrong_class(self):
        one, two = pair()
        for classes in ([(0, 0), (0, 0)], [(0, 1), (0, 1)], [(0, 0), (1, 0)], [(-1, 0), (-1, 1)], [(0, 0)], [],
                        [(0, 0), (0, 1), (0, 1)], [(0, 0), (-1, 1)], [(0, 0), (-1, 0)], [(1, 0), (0, 1)]):
            self.assertIs(certify(one, two, (classes, RIGHT[1])), False, classes)

    def test_a_wrong_step(self):
        one, two = pair()
        for steps in ([], [((), [])], [((), [0])], [((), [1])], [((), [0, 2])], [((1,), [0, 1])], [((-1,), [0]), ((), [0, 3])],
                      [((), [0, 1]), ((1,), [0, 1])]):
            self.assertIs(certify(one, two, (RIGHT[0], steps)), False, steps)
        for steps in ([((-1,), [0]), ((), [2, 1])], [((), [1, 0])], (((), (0, 1)),), [[[], [0, 1, 9]]]):
            self.assertIs(certify(one, two, (RIGHT[0], steps)), True, steps)

    def test_lists_and_tuples(self):
        one, two = pair()
        self.assertIs(certify(one, two, list(RIGHT)), True)
        self.assertIs(certify(one, two, [[[0, 0], [0, 1]], [[[], [0, 1]]]]), True)
        self.assertIs(certify(one, two, (((0, 0), (0, 1)), (((), (0, 1)),))), True)

    def test_every_kind_of_value(self):
        one, two = pair()
        for value in WRONG_KINDS:
            self.assertIs(certify(one, two, value), False)
            self.assertIs(certify(one, two, (value, RIGHT[1])), False)
            self.assertIs(certify(one, two, (RIGHT[0], value)), False)
            self.assertIs(certify(one, two, (*RIGHT, value)), False)
            self.assertIs(certify(one, two, ([(0, 0), value], RIGHT[1])), False)
            self.assertIs(certify(one, two, ([(0, 0), (0, value)], RIGHT[1])),
                          value == 1 and not isinstance(value, bool))
            self.assertIs(certify(one, two, (RIGHT[0], [value])), False)
            self.assertIs(certify(one, two, (RIGHT[0], [((), [value, 1])])), value == 0 and isinstance(value, int)
                          and not isinstance(value, bool))
        for value in (RIGHT[:1], {0: RIGHT[0], 1: RIGHT[1]}, "ab"):
            self.assertIs(certify(one, two, value), False)

    def test_unlike_ports(self):
        for inputs, outputs in ((1, 1), (2, 1), (0, 1), (1, 0), (1, 2)):
            one, two = Graph(1, []), Graph(inputs, [])
            one.set_outputs([0])
            two.set_outputs([0] * outputs)
            self.assertIs(certify(one, two, ([], [((), [0, 1])])), (inputs, outputs) == (1, 1))
            self.assertIs(certify(two, one, ([], [((), [0, 1])])), (inputs, outputs) == (1, 1))

    def test_a_joint_graph_that_would_be_too_large(self):
        one, two = Graph(1, [0] * 2000), Graph(1, [0] * 1999)
        own = [(index, 0) for index in range(3999)]
        self.assertIs(certify(one, two, (own, [((), [0, 1])])), False)
        self.assertIs(certify(one, two, (own[:-1] + [(0, 0)], [((), [0, 1])])), True)

    def certified_pairs(self):
        for seed in range(80):
            one = drawn_graph(seed, inputs=2, registers=1 + seed % 3, ands=12, outputs=2)
            two = netlist_graph(cover(one, complete_library(seed)))
            answer, found = compare(one, two, cycles=2, limit=500)
            if answer == "equal" and len(found[1]) > 1:
                yield one, two, found

    def test_certificates_with_an_error(self):
        many = 0
        for one, two, (classes, steps) in self.certified_pairs():
            many += 1
            self.assertIs(certify(one, two, (classes, steps)), True)
            self.assertIs(certify(one, two, (classes, steps[:-1])), False)
            self.assertIs(certify(one, two, (classes, steps + [((1,), [])])), False)
            clause, hints = steps[-1]
            self.assertIs(certify(one, two, (classes, steps[:-1] + [(clause, hints[:-1])])), False)
            self.assertIs(certify(one, two, (classes, steps[:-1] + [(clause + (1,), hints)])), False)
            for index, (leader, flip) in enumerate(classes):
                wrong = classes[:index] + [(leader, 1 - flip)] + classes[index + 1:]
                self.assertIs(certify(one, two, (wrong, steps)), False)
        self.assertGreater(many, 10)

    def test_a_step_left_out(self):
        one = drawn_graph(11, inputs=2, registers=0, ands=0, outputs=0)
        two = drawn_graph(11, inputs=2, registers=0, ands=0, outputs=0)
        one.set_outputs([one.exclusive(2, 4)])
        two.set_outputs([two.conjunction(two.conjunction(2, 4) ^ 1, two.conjunction(3, 5) ^ 1)])
        answer, (classes, steps) = compare(one, two, cycles=1, limit=100)
        self.assertEqual((answer, classes), ("equal", []))
        self.assertGreater(len(steps), 1)
        self.assertIs(certify(one, two, (classes, steps)), True)
        for index in range(len(steps)):
            self.assertIs(certify(one, two, (classes, steps[:index] + steps[index + 1:])), False)

    def test_certified_graphs_agree(self):
        for one, two, certificate in self.certified_pairs():
            drawn = random.Random(7)
            for _ in range(10):
                rows = [[drawn.randrange(2) for _ in range(2)] for _ in range(8)]
                resets = [drawn.randrange(2) for _ in range(8)]
                self.assertEqual(run_resets(one, rows, resets), run_resets(two, rows, resets))

    def test_arguments_do_not_change(self):
        one, two = pair()
        before = fields(one), fields(two)
        certificate = ([(0, 0), (0, 1)], [((), [0, 1])])
        certify(one, two, certificate)
        self.assertEqual((certificate, fields(one), fields(two)), (RIGHT, *before))


if __name__ == "__main__":
    unittest.main()
