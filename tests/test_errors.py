"""Promise 0.2: all errors are classes under CaissonError."""

import unittest

from caisson import errors
from caisson.errors import CaissonError, ShapeError, TalkError


class ErrorsTest(unittest.TestCase):
    def test_the_base_class_is_a_value_error(self):
        self.assertTrue(issubclass(CaissonError, ValueError))

    def test_all_errors_are_under_the_base_class(self):
        self.assertTrue(issubclass(ShapeError, CaissonError))
        self.assertTrue(issubclass(TalkError, CaissonError))
        for worth in vars(errors).values():
            if isinstance(worth, type) and issubclass(worth, BaseException):
                self.assertTrue(issubclass(worth, CaissonError))

    def test_the_two_kinds_are_apart(self):
        self.assertFalse(issubclass(ShapeError, TalkError))
        self.assertFalse(issubclass(TalkError, ShapeError))

    def test_a_shape_error_has_a_name(self):
        for name in ("fanout", "snapshots", ""):
            self.assertEqual(ShapeError(name).name, name)

    def test_a_talk_error_has_a_number_of_answers(self):
        for answers in (0, 1, 7):
            self.assertEqual(TalkError(answers).answers, answers)

    def test_errors_are_caught_by_their_bases(self):
        for error in (ShapeError("depth"), TalkError(3)):
            with self.assertRaises(CaissonError):
                raise error
            with self.assertRaises(ValueError):
                raise error


if __name__ == "__main__":
    unittest.main()
