import unittest

from clockwright.events import Choices, Ready, order
from helpers import failure


class ChoicesTest(unittest.TestCase):
    def test_integers_are_taken_from_the_front(self):
        choices = Choices([2, 0, 1])
        self.assertEqual(choices.used, 0)
        self.assertEqual([choices.choose(3) for _ in range(3)], [2, 0, 1])
        self.assertEqual(choices.used, 3)

    def test_integers_that_are_greater_than_the_number_of_things(self):
        choices = Choices([3, 7, 10 ** 30 + 1])
        self.assertEqual([choices.choose(3), choices.choose(4), choices.choose(10)], [0, 3, 1])

    def test_choices_that_are_used_up(self):
        choices = Choices([1])
        self.assertEqual([choices.choose(2), choices.choose(2), choices.choose(5)], [1, 0, 0])
        self.assertEqual(choices.used, 1)
        self.assertEqual((Choices([]).choose(4), Choices(()).choose(1)), (0, 0))

    def test_an_integer_is_taken_also_for_one_thing(self):
        choices = Choices([5, 1])
        self.assertEqual(choices.choose(1), 0)
        self.assertEqual(choices.used, 1)
        self.assertEqual(choices.choose(2), 1)

    def test_the_numbers_are_copied(self):
        numbers = [1, 1]
        choices = Choices(numbers)
        numbers[0] = 0
        numbers.append(1)
        self.assertEqual([choices.choose(2) for _ in range(3)], [1, 1, 0])
        self.assertEqual(numbers, [0, 1, 1])
        self.assertEqual(Choices((3, 4)).choose(10), 3)


class ReadyTest(unittest.TestCase):
    def test_there_are_no_duplicates(self):
        things = [5, 2, 5, 2, 0]
        ready = Ready(things)
        self.assertEqual((ready.waiting(), len(ready)), ([0, 2, 5], 3))
        self.assertEqual(things, [5, 2, 5, 2, 0])

    def test_add(self):
        ready = Ready([])
        for thing in (4, 9, 0, 4, 6, 9, 0, 10):
            self.assertIsNone(ready.add(thing))
        self.assertEqual((ready.waiting(), len(ready)), ([0, 4, 6, 9, 10], 5))

    def test_a_thing_is_taken_in_ascending_order_of_the_numbers(self):
        ready = Ready([8, 3, 5, 1])
        choices = Choices([2, 4, 1])
        self.assertEqual([ready.take(choices) for _ in range(4)], [5, 3, 8, 1])
        self.assertEqual((len(ready), ready.waiting(), choices.used), (0, [], 3))

    def test_a_thing_that_was_taken_may_be_added_again(self):
        ready = Ready([1, 2])
        self.assertEqual(ready.take(Choices([])), 1)
        ready.add(1)
        self.assertEqual(ready.waiting(), [1, 2])

    def test_take_of_nothing(self):
        choices = Choices([1, 2])
        self.assertEqual(failure(Ready([]).take, choices), ("Misused", "ready"))
        self.assertEqual(choices.used, 0)
        ready = Ready([7])
        ready.take(choices)
        self.assertEqual(failure(ready.take, choices), ("Misused", "ready"))

    def test_waiting_is_a_new_list(self):
        ready = Ready([1, 2])
        ready.waiting().clear()
        self.assertEqual(ready.waiting(), [1, 2])

    def test_many_things(self):
        ready = Ready(list(range(0, 1000, 2)))
        for thing in range(999, 0, -2):
            ready.add(thing)
        self.assertEqual(ready.waiting(), list(range(1000)))

    def test_methods_stand_in_the_classes(self):
        self.assertIn("choose", vars(Choices))
        for name in ("add", "take", "waiting", "__len__"):
            self.assertIn(name, vars(Ready))


class OrderTest(unittest.TestCase):
    def test_the_example(self):
        self.assertEqual(order(3, Choices([4, 1])), [1, 2, 0])

    def test_no_choices_give_ascending_order(self):
        self.assertEqual(order(4, Choices([])), [0, 1, 2, 3])

    def test_nothing_and_one_thing(self):
        choices = Choices([3, 3])
        self.assertEqual(order(0, choices), [])
        self.assertEqual(choices.used, 0)
        self.assertEqual(order(1, choices), [0])
        self.assertEqual(choices.used, 1)

    def test_every_permutation_occurs(self):
        found = {tuple(order(3, Choices([a, b]))) for a in range(3) for b in range(2)}
        self.assertEqual(len(found), 6)

    def test_the_choices_go_on(self):
        choices = Choices([1, 0, 1, 0])
        self.assertEqual((order(2, choices), order(2, choices)), ([1, 0], [1, 0]))
        self.assertEqual(choices.used, 4)


if __name__ == "__main__":
    unittest.main()
