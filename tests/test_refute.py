import itertools
import random
import unittest

from clockwright.refute import check_refutation, check_step
from clockwright.solver import solve
from drawn_graphs import bits
from solver_by_the_document import step_is_right

CLAUSES = [(1, 2), (1, -2), (-1,)]
RIGHT = [((1,), [0, 1]), ((), [2, 3])]


class StepTest(unittest.TestCase):
    def check(self, expected, clauses, clause, hints):
        self.assertIs(check_step(clauses, clause, hints), expected)
        self.assertIs(check_step(clauses, list(clause), tuple(hints)), expected)

    def test_right_by_the_first_hint(self):
        self.check(True, [(1,)], (1,), [0])
        self.check(True, [(1,)], (1, 2), [0])
        self.check(True, [(5,), ()], (7,), [1])

    def test_right_by_a_middle_hint(self):
        clauses = [(1, 2), (1, -2), (3, 4)]
        self.check(True, clauses, (1,), [0, 1, 2])
        self.check(True, clauses, (1,), [0, 1, 9, -1])

    def test_right_by_the_last_hint(self):
        clauses = [(1, 2), (-2, 3), (-3, 4), (-4, 1)]
        self.check(True, clauses, (1,), [0, 1, 2, 3])
        self.check(False, clauses, (1,), [0, 1, 2])

    def test_hints_that_come_to_their_end(self):
        self.check(False, [(1,)], (1,), [])
        self.check(False, [(1,)], (), [0])
        self.check(False, [()], (), [])
        self.check(False, [(1, 2)], (1,), [0, 0])

    def test_hints_out_of_range(self):
        for hint in (-1, -3, 3, 4, 10 ** 30, -10 ** 30):
            self.check(False, CLAUSES, (1,), [hint, 0, 1])
            self.check(False, CLAUSES, (1,), [0, hint, 1])
            self.check(True, CLAUSES, (1,), [0, 1, hint])
        self.check(False, [], (1,), [0])

    def test_two_open_terms(self):
        self.check(False, [(1, 2), (-1,), (-2,)], (), [0, 1, 2])
        self.check(True, [(1, 2), (-1,), (-2,)], (), [1, 0, 2])
        self.check(True, [(1, 2), (-1,), (-2,)], (), [1, 2, 0])
        # a term and its negative are both open
        self.check(False, [(1, -1), (1,), (-1,)], (), [0, 1, 2])

    def test_a_term_that_occurs_twice(self):
        self.check(True, [(1, 1), (-1, -1)], (), [0, 1])
        self.check(True, [(1, 2, 1, 2)], (1, 2, 1), [0])
        self.check(True, [(2, 1, 2), (-2,)], (1,), [0, 1])
        self.check(False, [(1, 2, 1)], (), [0])

    def test_the_negatives_of_all_terms_are_assumed(self):
        self.check(True, [(1, 2, 3)], (3, 2, 1), [0])
        self.check(True, [(1, 2)], (1, 2, 3), [0])
        self.check(False, [(1, 2, 3)], (1, 2), [0])
        # the clause of the step is always true
        self.check(True, [(1, -1)], (1, -1), [0])
        self.check(True, [(-1,)], (1, -1), [0])
        self.check(False, [(2,)], (1, -1), [0])

    def test_the_negative_counts_and_not_the_term(self):
        self.check(False, [(-1,)], (1,), [0])
        # 1 is assumed twice
        self.check(False, [(1,), (1, 1)], (), [0, 1])

    def test_only_the_given_clauses_count(self):
        self.check(False, CLAUSES, (1,), [3])
        self.check(True, CLAUSES + [(1,)], (1,), [3])

    def test_drawn_steps(self):
        seen = {True: 0, False: 0}
        for seed in range(3000):
            drawn = random.Random(seed)

            def terms(most):
                return tuple(drawn.choice((1, -1)) * drawn.randint(1, 3) for _ in range(drawn.randint(0, most)))

            clauses = [terms(3) for _ in range(drawn.randint(0, 6))]
            clause, hints = terms(2), [drawn.randint(-1, 6) for _ in range(drawn.randint(0, 5))]
            expected = step_is_right(clauses, clause, hints)
            seen[expected] += 1
            self.check(expected, clauses, clause, hints)
            if expected:
                # the clause of a right step follows from the clauses
                for assignment in bits(3):
                    holds = [any(assignment[abs(term) - 1] == (term > 0) for term in one) for one in clauses + [clause]]
                    self.assertTrue(holds[-1] or not all(holds[:-1]))
        self.assertGreater(min(seen.values()), 300)


class RefutationTest(unittest.TestCase):
    def test_the_example(self):
        self.assertIs(check_refutation(CLAUSES, RIGHT), True)
        self.assertIs(check_refutation(CLAUSES, [((), [0, 1])]), False)

    def test_an_empty_list_of_steps(self):
        for clauses in ([], [()], CLAUSES):
            self.assertIs(check_refutation(clauses, []), False)
            self.assertIs(check_refutation(clauses, ()), False)

    def test_the_clause_of_the_last_step(self):
        self.assertIs(check_refutation(CLAUSES, RIGHT[:1]), False)
        self.assertIs(check_refutation(CLAUSES, RIGHT + [((1,), [0, 1])]), False)
        self.assertIs(check_refutation(CLAUSES, RIGHT + RIGHT[1:]), True)
        self.assertIs(check_refutation(CLAUSES, RIGHT + [((), [4])]), True)

    def test_all_steps_are_right(self):
        self.assertIs(check_refutation(CLAUSES, [((1,), [0]), ((), [2, 3])]), False)
        self.assertIs(check_refutation(CLAUSES, [((1,), [0, 1]), ((), [3])]), False)
        self.assertIs(check_refutation([()], [((), [0])]), True)
        self.assertIs(check_refutation([()], [((5,), []), ((), [0])]), False)

    def test_a_step_does_not_see_itself_or_later_ones(self):
        self.assertIs(check_refutation(CLAUSES, [((), [3])]), False)
        self.assertIs(check_refutation(CLAUSES, [((1,), [4]), ((), [2, 3])]), False)
        self.assertIs(check_refutation([], [((), [0])]), False)

    def test_lists_and_tuples(self):
        for outer, step, inner in itertools.product((list, tuple), repeat=3):
            value = outer([step([inner([1]), inner([0, 1])]), step([inner([]), inner([2, 3])])])
            self.assertIs(check_refutation(CLAUSES, value), True)

    def test_arguments_do_not_change(self):
        clauses, refutation = list(CLAUSES), list(RIGHT)
        check_refutation(clauses, refutation)
        self.assertEqual((clauses, refutation), (CLAUSES, RIGHT))

    def test_every_kind_of_value_at_every_place(self):
        wrong = (None, True, False, 0, 1, 7, -1, "", "abc", "12", {}, {0: 1}, {"a": []}, (None,), [None], [[]], [{}], [""])
        for value in wrong:
            self.assertIs(check_refutation(CLAUSES, value), False, value)
            self.assertIs(check_refutation(CLAUSES, [value]), False, value)
            self.assertIs(check_refutation(CLAUSES, RIGHT + [value]), False, value)
            self.assertIs(check_refutation(CLAUSES, [value] + RIGHT), False, value)
            self.assertIs(check_refutation(CLAUSES, [RIGHT[0], (value, [2, 3])]), False, value)
            if value != ():
                self.assertIs(check_refutation(CLAUSES, [RIGHT[0], ((), value)]), False, value)

    def test_every_kind_of_value_as_a_term_or_a_hint(self):
        for value in (None, True, False, "", "1", "a", {}, [], (), [1], (1,), {1: 1}):
            self.assertIs(check_refutation(CLAUSES, [((value,), [0, 1]), ((), [2, 3])]), False, value)
            self.assertIs(check_refutation(CLAUSES, [((1, value), [0, 1]), ((), [2, 3])]), False, value)
            self.assertIs(check_refutation(CLAUSES, [((1,), [value, 0, 1]), ((), [2, 3])]), False, value)
            # also behind the hint with which the step is right
            self.assertIs(check_refutation(CLAUSES, [((1,), [0, 1, value]), ((), [2, 3])]), False, value)
            self.assertIs(check_refutation(CLAUSES, [((1,), [0, 1]), ((), [2, 3, value])]), False, value)

    def test_0_is_no_term_but_a_hint(self):
        self.assertIs(check_refutation(CLAUSES, [((1, 0), [0, 1]), ((), [2, 3])]), False)
        self.assertIs(check_refutation(CLAUSES, [((0,), [0, 1]), ((), [2])]), False)
        self.assertIs(check_refutation([(), (1,)], [((1, 0), [0]), ((), [0])]), False)
        self.assertIs(check_refutation([()], [((1,), [0]), ((), [0])]), True)

    def test_true_and_false_are_no_integers(self):
        self.assertIs(check_refutation([(), ()], [((), [1])]), True)
        self.assertIs(check_refutation([(), ()], [((), [True])]), False)
        self.assertIs(check_refutation([(), ()], [((), [False])]), False)
        self.assertIs(check_refutation([()], [((True,), [0]), ((), [0])]), False)

    def test_steps_of_other_lengths(self):
        for step in ((), ((),), ((), [2, 3], []), ([],), [[], [2, 3], 0]):
            self.assertIs(check_refutation(CLAUSES, [RIGHT[0], step]), False)

    def test_strings_and_dicts_of_length_two(self):
        for value in ("ab", {0: [], 1: []}, {(): 1, (1,): [0]}):
            self.assertIs(check_refutation([()], [value]), False)
            self.assertIs(check_refutation([()], [value, ((), [0])]), False)

    def test_refutations_show_that_there_is_no_model(self):
        for seed in range(200):
            drawn = random.Random(seed)
            clauses = [tuple(drawn.choice((1, -1)) * drawn.randint(1, 4) for _ in range(drawn.randint(1, 3)))
                       for _ in range(14)]
            answer, steps = solve(clauses, 4, 1000)
            models = [one for one in bits(4) if all(any(one[abs(t) - 1] == (t > 0) for t in c) for c in clauses)]
            self.assertEqual(answer, "model" if models else "refuted")
            if answer == "refuted":
                self.assertIs(check_refutation(clauses, steps), True)


if __name__ == "__main__":
    unittest.main()
