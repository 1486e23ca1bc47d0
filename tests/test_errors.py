import unittest

from clockwright import errors
from helpers import FIELDS


class ErrorsTest(unittest.TestCase):
    def test_refused_is_a_value_error(self):
        self.assertEqual(errors.Refused.__bases__, (ValueError,))

    def test_each_class_stands_directly_under_refused(self):
        for name in FIELDS:
            self.assertEqual(getattr(errors, name).__bases__, (errors.Refused,), name)

    def test_no_class_stands_under_another_one(self):
        classes = [getattr(errors, name) for name in FIELDS]
        for one in classes:
            for two in classes:
                self.assertEqual(issubclass(one, two), one is two)

    def test_each_class_has_its_one_field(self):
        for name, field in FIELDS.items():
            for value in (0, 17, "word", None):
                error = getattr(errors, name)(value)
                self.assertEqual(vars(error), {field: value}, name)

    def test_the_constructor_takes_one_argument(self):
        for name in FIELDS:
            with self.assertRaises(TypeError):
                getattr(errors, name)()
            with self.assertRaises(TypeError):
                getattr(errors, name)(1, 2)

    def test_errors_are_raised_and_caught(self):
        with self.assertRaises(ValueError) as caught:
            raise errors.NotACut(5)
        self.assertEqual(caught.exception.node, 5)


if __name__ == "__main__":
    unittest.main()
