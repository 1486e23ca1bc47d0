import random
import unittest

from clockwright.clauses import all_true, graph_clauses, term_of
from clockwright.refute import check_refutation
from clockwright.solver import solve
from drawn_graphs import bits, drawn_graph
from solver_by_the_document import plain_solve

# All four of these are false for one pair of values of 2 and 3 each, unless 1 is true.
FOUR = [(1, 2, 3), (1, 2, -3), (1, -2, 3), (1, -2, -3)]


class SmallTest(unittest.TestCase):
    def check(self, clauses, variables, expected, conflicts):
        """The answer with just enough conflicts and with more, and giving up with one fewer."""
        for limit in (conflicts, conflicts + 1, 1000):
            self.assertEqual(solve(clauses, variables, limit), expected)
        for limit in range(conflicts):
            self.assertEqual(solve(clauses, variables, limit), ("unknown", None))
        self.assertEqual(plain_solve(clauses, variables, 1000), expected)

    def test_the_examples(self):
        self.check([(1, 2), (1, -2)], 2, ("model", [1, 0]), 1)
        self.check([(1,), (-1,)], 1, ("refuted", [((), [0, 1])]), 1)

    def test_no_clauses(self):
        self.check([], 0, ("model", []), 0)
        self.check([], 3, ("model", [0, 0, 0]), 0)

    def test_the_empty_clause(self):
        self.check([()], 0, ("refuted", [((), [0])]), 1)
        self.check([(1, 2), ()], 2, ("refuted", [((), [1])]), 1)
        self.check([(1,), (2,), (), ()], 2, ("refuted", [((), [2])]), 1)

    def test_single_terms_that_agree(self):
        self.check([(2,), (2,), (-3,)], 3, ("model", [0, 1, 0]), 0)
        self.check([(2,), (2, 2)], 2, ("model", [0, 1]), 0)

    def test_single_terms_that_contradict_each_other(self):
        self.check([(2,), (1,), (-2,), (-1,)], 2, ("refuted", [((), [0, 2])]), 1)
        self.check([(-1, -1), (2,), (1, 1, 1)], 2, ("refuted", [((), [0, 2])]), 1)
        # the empty clause comes behind the contradiction
        self.check([(1,), (-1,), ()], 1, ("refuted", [((), [0, 1])]), 1)
        self.check([(1,), (), (-1,)], 1, ("refuted", [((), [1])]), 1)

    def test_single_terms_come_before_propagation(self):
        # -2 and -1 stand on the trail before the first clause is looked at
        self.check([(1, 2), (-2,), (-1,)], 2, ("refuted", [((), [1, 2, 0])]), 1)
        self.check([(1, 2), (1, -2), (-1,)], 2, ("refuted", [((), [2, 0, 1])]), 1)

    def test_terms_that_occur_twice(self):
        self.check([(1, 1), (-1, 2, 2)], 2, ("model", [1, 1]), 0)
        self.check([(1, 1, 2), (1, -2, 1)], 2, ("model", [1, 0]), 1)
        self.check([(1, -1)], 1, ("model", [0]), 0)
        self.check([(1,), (-1, 2, -2)], 2, ("model", [1, 0]), 0)

    def test_decisions_take_the_least_variable_and_its_negative(self):
        self.check([(1, 2, 3)], 3, ("model", [0, 0, 1]), 0)
        self.check([(1, 2), (-2, 3)], 4, ("model", [0, 1, 1, 0]), 0)
        self.check([(4, 2), (-1, 3)], 4, ("model", [0, 0, 0, 1]), 0)

    def test_two_decisions(self):
        # not 1, not 2: 3 by the clause 0, and the clause 1 is false; then 2 by the clause 4, 3 by the clause 2
        self.check(FOUR, 3, ("model", [1, 0, 0]), 2)
        self.check(FOUR + [(-1, 2), (-1, -2)], 3,
                   ("refuted", [((2, 1), [0, 1]), ((1,), [6, 2, 3]), ((), [7, 4, 5])]), 3)

    def test_the_trail_is_cut_before_the_latest_marked_decision(self):
        # 2 is decided and not marked
        clauses = [(1, 3, 4), (1, 3, -4), (1, -3, 4), (1, -3, -4), (-1, 5), (-1, -5)]
        self.check(clauses, 5, ("refuted", [((3, 1), [0, 1]), ((1,), [6, 2, 3]), ((), [7, 4, 5])]), 3)

    def test_a_learned_term_is_lost_with_the_decisions_before_it(self):
        # (2,) is learned while 1 is decided; when that is taken back, 2 is decided again, and (2,) is learned again
        clauses = [(2, 3), (2, -3), (1, -2, 4), (1, -2, -4)]
        self.check(clauses, 4, ("model", [1, 1, 0, 0]), 3)
        self.check(clauses[:2], 3, ("model", [0, 1, 0]), 1)

    def test_learned_clauses_are_looked_at(self):
        clauses = [(2, 3), (-3, 5), (-3, -5), (1, -2, 4), (1, -2, -4)]
        self.check(clauses, 5, ("model", [1, 1, 0, 0, 0]), 3)
        # when 2 is decided again, the learned clause 7 is false before the terms behind 3 are handled
        self.check(clauses + [(-2, -1, 6), (-2, -1, -6)], 6, ("refuted", [
            ((2,), [0, 1, 2]), ((1,), [7, 3, 4]), ((2,), [7]), ((), [8, 9, 5, 6])]), 4)

    def test_the_latest_marked_decision_comes_first(self):
        clauses = [(1, 2, 3, 4), (1, 2, 3, -4), (-3, 5), (-3, -5), (-2, 6), (-2, -6), (-1, 7), (-1, -7)]
        self.check(clauses, 7, ("refuted", [
            ((3, 2, 1), [0, 1]), ((2, 1), [8, 2, 3]), ((1,), [9, 4, 5]), ((), [10, 6, 7])]), 4)

    def test_hints_stand_in_the_order_of_the_trail(self):
        clauses = [(-4, 5), (1, 2), (1, 3), (-2, -3, 4), (-4, -5)]
        # not 1: 2 by the clause 1, 3 by 2, 4 by 3, 5 by 0, and the clause 4 is false
        self.check(clauses, 5, ("model", [1, 0, 0, 0, 0]), 1)
        self.check(clauses + [(-1,)], 5, ("refuted", [((), [5, 1, 2, 3, 0, 4])]), 1)

    def test_only_marked_terms_give_hints(self):
        clauses = [(1, 6), (1, 2), (1, 7), (1, 3), (-2, -3), (-1,)]
        self.check(clauses, 7, ("refuted", [((), [5, 1, 3, 4])]), 1)

    def test_kinds_of_values(self):
        answer = solve(FOUR + [(-1,)], 3, 10)
        self.assertIsInstance(answer, tuple)
        self.assertIsInstance(answer[1], list)
        for step in answer[1]:
            self.assertEqual([type(part) for part in (step, *step)], [tuple, tuple, list])
        self.assertEqual([type(bit) for bit in solve([], 2, 0)[1]], [int, int])

    def test_the_clauses_do_not_change(self):
        clauses = FOUR + [(-1, 2), (-1, -2)]
        kept = list(clauses)
        for limit in (0, 1, 100):
            solve(clauses, 3, limit)
            self.assertEqual(clauses, kept)


class DrawnTest(unittest.TestCase):
    def drawn_clauses(self, drawn, variables):
        many = drawn.randint(0, 5 * variables)
        sizes = drawn.choice(((2, 3), (3,), (1, 2, 3, 4), (2, 2, 3, 4), (3, 3, 3, 3, 1), (0, 3, 3, 3, 3, 3, 3, 3)))
        return [tuple(drawn.choice((1, -1)) * drawn.randint(1, variables) for _ in range(drawn.choice(sizes)))
                for _ in range(many)]

    def test_drawn_lists(self):
        seen = {"model": 0, "refuted": 0, "unknown": 0}
        for seed in range(2500):
            drawn = random.Random(seed)
            variables = drawn.randint(1, 8)
            clauses = self.drawn_clauses(drawn, variables)
            limit = drawn.choice((0, 1, 2, 5, 1000, 1000, 1000))
            answer, found = solve(clauses, variables, limit)
            self.assertEqual((answer, found), plain_solve(clauses, variables, limit))
            seen[answer] += 1
            if answer == "model":
                self.assertTrue(all_true(clauses, found))
            elif answer == "refuted":
                self.assertTrue(check_refutation(clauses, found))
                self.check_limits(clauses, variables, found)
        self.assertGreater(min(seen.values()), 100)

    def test_clauses_of_graphs(self):
        for seed in range(120):
            graph = drawn_graph(seed, inputs=5, registers=0, ands=25, outputs=4)
            literals = [graph.exclusive(graph.outputs[0], graph.outputs[1]), graph.conjunction(*graph.outputs[2:])]
            clauses = graph_clauses(graph) + [(term_of(literals[0]),), (term_of(literals[1]),)]
            answer = solve(clauses, graph.node_count(), 300)
            self.assertEqual(answer, plain_solve(clauses, graph.node_count(), 300))

    def check_limits(self, clauses, variables, steps):
        self.assertEqual(solve(clauses, variables, len(steps)), ("refuted", steps))
        self.assertEqual(solve(clauses, variables, len(steps) - 1), ("unknown", None))

    def test_there_is_a_model_if_one_is_found(self):
        for seed in range(300):
            drawn = random.Random(seed)
            clauses = self.drawn_clauses(drawn, 5)
            exists = any(all_true(clauses, assignment) for assignment in bits(5))
            self.assertEqual(solve(clauses, 5, 1000)[0], "model" if exists else "refuted")

    def test_many_conflicts(self):
        # six things do not fit into five places
        def variable(thing, place):
            return 5 * thing + place + 1

        clauses = [tuple(variable(thing, place) for place in range(5)) for thing in range(6)]
        clauses += [(-variable(one, place), -variable(two, place))
                    for place in range(5) for one in range(6) for two in range(one)]
        answer, steps = solve(clauses, 30, 2000)
        self.assertEqual(answer, "refuted")
        self.assertTrue(check_refutation(clauses, steps))
        self.check_limits(clauses, 30, steps)

    def test_long_chains(self):
        clauses = [(-variable, variable + 1) for variable in range(1, 5000)]
        self.assertEqual(solve(clauses + [(1,)], 5000, 0), ("model", [1] * 5000))
        self.assertEqual(solve(clauses, 5000, 0), ("model", [0] * 5000))
        answer, steps = solve(clauses + [(1,), (-5000, -4999)], 5000, 1)
        self.assertEqual((answer, len(steps), len(steps[0][1])), ("refuted", 1, 5001))


if __name__ == "__main__":
    unittest.main()
