import random
import unittest

from clockwright.certify import are_classes, certify
from clockwright.compare import compare, refine
from clockwright.cover import cover
from clockwright.graph import Graph, run
from clockwright.netlist import netlist_graph
from clockwright.rewrite import rewritten
from agreement_by_the_document import drawn_classes, plain_compare, plain_refine
from drawn_graphs import drawn_graph, fields
from drawn_netlists import complete_library
from helpers import failure

NOTHING = ("unknown", None)


def delay(initials, inverted=False):
    """Registers in a row behind the input; the output is the last one."""
    graph = Graph(1, initials)
    literal = 2
    for index in range(len(initials)):
        graph.set_next(index, literal ^ (inverted and index == 0))
        literal = graph.register_literal(index)
    graph.set_outputs([literal])
    return graph


def turned(source, order, flips):
    """A graph that behaves as the source does; its register i is register order[i], inverted if flips[i] is 1."""
    graph = Graph(source.inputs, [source.registers[old][1] ^ flip for old, flip in zip(order, flips)])
    built = [2 * node for node in range(1 + source.inputs)]
    built += [graph.register_literal(order.index(old)) ^ flips[order.index(old)] for old in range(len(order))]
    for a, b in source.ands:
        built.append(graph.conjunction(built[a // 2] ^ (a & 1), built[b // 2] ^ (b & 1)))
    for index, (old, flip) in enumerate(zip(order, flips)):
        literal = source.registers[old][0]
        graph.set_next(index, built[literal // 2] ^ (literal & 1) ^ flip)
    graph.set_outputs([built[literal // 2] ^ (literal & 1) for literal in source.outputs])
    return graph


def counter(modulus, seen):
    """Three registers that count from 0 while the input is 1; the output tells whether the count is `seen`."""
    graph = Graph(1, [0, 0, 0])
    bits = [graph.register_literal(index) for index in range(3)]

    def count_is(number):
        literal = 1
        for index in range(3):
            literal = graph.conjunction(literal, bits[index] ^ (1 - (number >> index & 1)))
        return literal

    carry = 2
    wraps = graph.conjunction(2, count_is(modulus - 1))
    for index in range(3):
        total = graph.exclusive(bits[index], carry)
        carry = graph.conjunction(bits[index], carry)
        graph.set_next(index, graph.conjunction(total, wraps ^ 1))
    graph.set_outputs([count_is(seen)])
    return graph


class RefineTest(unittest.TestCase):
    def check(self, classes, bits, expected):
        before = list(classes), list(bits)
        self.assertEqual(refine(classes, bits), expected)
        self.assertEqual(plain_refine(classes, bits), expected)
        self.assertEqual((classes, bits), before)

    def test_the_class_of_constants(self):
        self.check([(-1, 0), (-1, 1)], [0, 1], [(-1, 0), (-1, 1)])
        self.check([(-1, 0), (-1, 1)], [1, 1], [(0, 0), (-1, 1)])
        self.check([(-1, 0), (-1, 1)], [0, 0], [(-1, 0), (1, 0)])
        self.check([(-1, 0), (-1, 1)], [1, 0], [(0, 0), (0, 1)])

    def test_those_that_leave_form_one_class(self):
        self.check([(-1, 1), (-1, 0), (-1, 1), (-1, 0), (-1, 1)], [1, 1, 0, 1, 0],
                   [(-1, 1), (1, 0), (1, 1), (1, 0), (1, 1)])

    def test_the_class_of_a_leader(self):
        self.check([(0, 0), (0, 0), (0, 1), (0, 1)], [1, 1, 0, 0], [(0, 0), (0, 0), (0, 1), (0, 1)])
        self.check([(0, 0), (0, 0), (0, 1), (0, 1)], [1, 0, 1, 0], [(0, 0), (1, 0), (1, 1), (0, 1)])
        self.check([(0, 0), (0, 1), (0, 0), (0, 1)], [0, 0, 0, 0], [(0, 0), (1, 0), (0, 0), (1, 0)])
        self.check([(0, 0), (0, 1), (0, 0)], [1, 1, 0], [(0, 0), (1, 0), (1, 1)])

    def test_a_leader_keeps_its_pair(self):
        self.check([(0, 0), (1, 0)], [1, 1], [(0, 0), (1, 0)])
        self.check([(0, 0), (1, 0)], [0, 1], [(0, 0), (1, 0)])

    def test_several_classes_at_once(self):
        self.check([(-1, 0), (1, 0), (-1, 1), (1, 1), (4, 0), (1, 0), (4, 1)], [1, 0, 0, 0, 1, 0, 1],
                   [(0, 0), (1, 0), (0, 1), (3, 0), (4, 0), (1, 0), (6, 0)])

    def test_no_registers(self):
        self.check([], [], [])

    def test_drawn_classes(self):
        for seed in range(400):
            drawn = random.Random(seed)
            initials = [drawn.randrange(2) for _ in range(drawn.randint(0, 8))]
            classes = drawn_classes(drawn, initials)
            for _ in range(3):
                bits = [drawn.randrange(2) for _ in initials]
                expected = plain_refine(classes, bits)
                self.check(classes, bits, expected)
                one, two = Graph(0, initials[:2]), Graph(0, initials[2:])
                self.assertIs(are_classes(one, two, expected), True)
                classes = expected


class SmallTest(unittest.TestCase):
    def check(self, one, two, expected, cycles=4, limit=100):
        self.assertEqual(compare(one, two, cycles=cycles, limit=limit), expected)
        if expected[0] == "equal":
            self.assertIs(certify(one, two, expected[1]), True)

    def test_the_example(self):
        self.check(delay([0]), delay([0], inverted=True), ("different", [[0], [0]]), cycles=3, limit=50)

    def test_graphs_that_differ_in_the_first_cycle(self):
        self.check(delay([0]), delay([1]), ("different", [[0]]))
        one, two = Graph(2, []), Graph(2, [])
        one.set_outputs([one.conjunction(2, 4)])
        two.set_outputs([two.conjunction(2, 5) ^ 1])
        # not 2, not 3: the second output is 1, the first one 0
        self.check(one, two, ("different", [[0, 0]]))
        two.set_outputs([two.conjunction(2, 5)])
        # the first inputs that differ are 1 and 0, as decisions take 0 first, and change the latest one first
        self.check(one, two, ("different", [[1, 0]]))

    def test_graphs_that_differ_in_the_second_cycle_and_later(self):
        for many in range(1, 5):
            expected = ("different", [[0]] * (many + 1))
            self.check(delay([0] * many), delay([0] * many, inverted=True), expected, cycles=5)
            self.check(delay([0] * many), delay([0] * many, inverted=True), expected, cycles=many + 1)
            self.check(delay([0] * many), delay([0] * many, inverted=True), NOTHING, cycles=many)

    def test_unlike_numbers_of_registers(self):
        # the outputs are 0 and the input of the cycle before, so that this input must be 1
        self.check(delay([0]), delay([0, 0]), ("different", [[1], [0]]))
        self.check(delay([]), delay([0]), ("different", [[1]]))

    def test_no_cycles(self):
        self.check(delay([0]), delay([1]), NOTHING, cycles=0)
        self.check(delay([0]), delay([0]), ("equal", ([(0, 0), (0, 0)], [((), [0, 1])])), cycles=0)

    def test_a_register_that_follows(self):
        # both leave the class of constants with the model in which the input is 1
        one = delay([0])
        two = delay([1], inverted=True)
        two.set_outputs([5])
        self.check(one, two, ("equal", ([(0, 0), (0, 1)], [((), [0, 1])])))

    def test_constant_registers(self):
        one, two = Graph(1, [1, 0]), Graph(1, [])
        one.set_outputs([one.conjunction(2, 4), 6, 5])
        two.set_outputs([2, 0, 0])
        # the registers keep their values
        self.check(one, two, ("equal", ([(-1, 1), (-1, 0)], [((), [0, 1])])))

    def test_classes_of_several_models(self):
        one = Graph(2, [0, 0, 0])
        for index, literal in enumerate((2, 4, 2)):
            one.set_next(index, literal)
        one.set_outputs([6, 8, 10])
        two = Graph(2, [0, 1])
        two.set_next(0, 4)
        two.set_next(1, 3)
        two.set_outputs([9, 6, 9])
        # with the inputs 0 and 1 the registers 1 and 3 leave the constants, with 1 and 0 all others
        self.check(one, two, ("equal", ([(0, 0), (1, 0), (0, 0), (1, 0), (0, 1)], [((), [0, 1])])))

    def test_refutations_with_steps(self):
        one, two = Graph(2, []), Graph(2, [])
        one.set_outputs([one.conjunction(2, one.conjunction(2, 4))])
        two.set_outputs([two.conjunction(2, 4)])
        # the variables 6 and 7 are one output without the other one, and 8 is that neither of them holds
        steps = [((2,), [16, 1, 4, 10, 8, 15]), ((3,), [16, 2, 5, 10, 8, 15]), ((), [16, 17, 18, 3, 6, 7, 11, 15])]
        self.check(one, two, ("equal", ([], steps)))
        self.check(one, two, ("equal", ([], steps)), limit=3)
        self.check(one, two, NOTHING, limit=2)

    def test_giving_up_in_an_early_cycle(self):
        # the first outputs are two forms of the exclusive, and the second ones differ from the second cycle on
        one, two = Graph(2, [0]), Graph(2, [0])
        one.set_next(0, 2)
        two.set_next(0, 3)
        one.set_outputs([one.exclusive(2, 4), 6])
        two.set_outputs([two.conjunction(two.conjunction(2, 4) ^ 1, two.conjunction(3, 5) ^ 1), 6])
        for limit in range(4):
            self.check(one, two, NOTHING, limit=limit)
        self.check(one, two, ("different", [[0, 0], [0, 0]]), limit=4)

    def test_empty_graphs(self):
        self.check(Graph(0, []), Graph(0, []), ("equal", ([], [((), [0, 1])])))
        self.check(Graph(2, [1]), Graph(2, [0, 0]), ("equal", ([(-1, 1), (-1, 0), (-1, 0)], [((), [0, 1])])))
        self.check(Graph(0, []), Graph(0, []), NOTHING, limit=0)

    def test_graphs_that_agree_in_reachable_states_only(self):
        # the count 7 is never reached
        one, two = counter(5, 7), Graph(1, [])
        two.set_outputs([0])
        for cycles in (0, 1, 3):
            self.check(one, two, NOTHING, cycles=cycles, limit=1000)
        # the count 3 is reached by three cycles, and is seen in the fourth one
        one = counter(5, 3)
        self.check(one, two, NOTHING, cycles=3, limit=1000)
        answer, rows = compare(one, two, cycles=4, limit=1000)
        self.assertEqual((answer, rows), ("different", [[1], [1], [1], [0]]))

    def test_limits_that_are_too_small(self):
        one = counter(6, 2)
        two = turned(one, [2, 0, 1], [1, 0, 1])
        expected = compare(one, two, cycles=1, limit=5000)
        self.assertEqual(expected[0], "equal")
        limits = [compare(one, two, cycles=1, limit=limit) for limit in range(60)]
        self.assertEqual(limits[0], NOTHING)
        self.assertTrue(all(found in (NOTHING, expected) for found in limits))
        self.assertEqual(compare(one, two, cycles=1, limit=0), NOTHING)


class PortsTest(unittest.TestCase):
    def test_unlike_ports(self):
        for inputs, outputs in ((1, 1), (2, 1), (0, 1), (1, 0), (1, 2), (2, 2)):
            one, two = Graph(1, []), Graph(inputs, [0, 1])
            one.set_outputs([0])
            two.set_outputs([0] * outputs)
            expected = None if (inputs, outputs) == (1, 1) else ("Unsupported", "ports")
            self.assertEqual(failure(compare, one, two, cycles=1, limit=9), expected)
            self.assertEqual(failure(compare, two, one, cycles=1, limit=9), expected)

    def test_the_ports_come_before_the_size(self):
        one, two = Graph(1, []), Graph(3999, [])
        self.assertEqual(failure(compare, one, two, cycles=1, limit=9), ("Unsupported", "ports"))

    def test_joint_graphs_that_would_be_too_large(self):
        one = Graph(1500, [])
        for index in range(1499):
            one.conjunction(2 * index + 2, 2 * index + 4)
        two = Graph(1500, [])
        for index in range(1499):
            two.conjunction(2 * index + 3, 2 * index + 5)
        one.set_outputs([2])
        two.set_outputs([3])
        self.assertEqual(compare(one, two, cycles=1, limit=9), NOTHING)

    def test_unrolled_graphs_that_would_be_too_large(self):
        one, two = Graph(1000, [0, 0, 0, 0]), Graph(1000, [0, 0, 0, 0])
        for index in range(4):
            literal = 2 if index == 0 else one.register_literal(index - 1)
            one.set_next(index, literal)
            two.set_next(index, literal ^ (index == 0))
        one.set_outputs([one.register_literal(3)])
        two.set_outputs([two.register_literal(3)])
        # four cycles have too many inputs, and the graphs differ in the fifth one
        self.assertEqual(compare(one, two, cycles=9, limit=9), NOTHING)
        one.set_outputs([one.register_literal(1)])
        two.set_outputs([two.register_literal(1)])
        self.assertEqual(compare(one, two, cycles=9, limit=9), ("different", [[0] * 1000] * 3))


class DrawnTest(unittest.TestCase):
    def check(self, one, two, cycles=3, limit=200):
        before = fields(one), fields(two)
        answer, found = compare(one, two, cycles=cycles, limit=limit)
        self.assertEqual((fields(one), fields(two)), before)
        if answer == "equal":
            self.assertIsInstance(found, tuple)
            self.assertIs(certify(one, two, found), True)
        elif answer == "different":
            self.assertNotEqual(run(one, found)[-1], run(two, found)[-1])
            self.assertEqual(run(one, found)[:-1], run(two, found)[:-1])
        return answer, found

    def test_by_the_document(self):
        seen = {"equal": 0, "different": 0, "unknown": 0}
        for seed in range(150):
            one = drawn_graph(seed, inputs=1 + seed % 3, registers=seed % 4, ands=4 + seed % 8, outputs=1 + seed % 2)
            others = [drawn_graph(seed + 999, inputs=1 + seed % 3, registers=seed % 3, ands=6, outputs=1 + seed % 2),
                      rewritten(one), netlist_graph(cover(one, complete_library(seed)))]
            for two in others:
                limit = (0, 1, 3, 200, 200, 200)[seed % 6]
                found = self.check(one, two, cycles=seed % 5, limit=limit)
                self.assertEqual(found, plain_compare(one, two, seed % 5, limit))
                seen[found[0]] += 1
        self.assertGreater(min(seen.values()), 30)

    def test_inverted_and_reordered_registers(self):
        seen = 0
        for seed in range(60):
            drawn = random.Random(seed)
            one = drawn_graph(seed, inputs=2, registers=3, ands=14, outputs=2)
            order = drawn.sample(range(3), 3)
            two = turned(one, order, [drawn.randrange(2) for _ in order])
            answer, _ = self.check(one, two, limit=2000)
            self.assertNotEqual(answer, "different")
            seen += answer == "equal"
        self.assertGreater(seen, 50)

    def test_graphs_with_one_change(self):
        seen = 0
        for seed in range(60):
            one = drawn_graph(seed, inputs=2, registers=3, ands=12, outputs=1)
            two = drawn_graph(seed, inputs=2, registers=3, ands=12, outputs=1)
            literal, _ = two.registers[seed % 3]
            two.set_next(seed % 3, literal ^ 1)
            answer, _ = self.check(one, two, cycles=4)
            seen += answer == "different"
        self.assertGreater(seen, 15)


if __name__ == "__main__":
    unittest.main()
