"""The interface: tidyback/errors.py."""

import inspect
import unittest

from tidyback import errors
from tidyback.errors import (
    BenchError, CodeError, JoinError, MachineError, PlanError, ProgramError, TaskError, TidyError)

ATTRIBUTES = {
    ProgramError: {"line": 3, "what": "same step"},
    TaskError: {"what": "wrong use", "place": 2},
    PlanError: {"what": "not possible", "place": 5},
    CodeError: {"what": "unknown source", "place": 7},
    JoinError: {"what": "wrong link", "place": 1},
    MachineError: {"place": 12},
    BenchError: {"what": "log is full"},
}


class ErrorsTest(unittest.TestCase):
    def test_the_base_class_is_a_value_error(self):
        self.assertEqual(TidyError.__bases__, (ValueError,))

    def test_no_other_error_is_a_base_class(self):
        for error in ATTRIBUTES:
            self.assertEqual(error.__bases__, (TidyError,), error)

    def test_each_class_stands_in_its_file(self):
        for error in (TidyError, *ATTRIBUTES):
            self.assertEqual(error.__module__, "tidyback.errors")
        found = [c for _, c in inspect.getmembers(errors, inspect.isclass)]
        self.assertEqual(len(found), 1 + len(ATTRIBUTES))

    def test_attributes_are_passed_in_their_order(self):
        for error, attributes in ATTRIBUTES.items():
            made = error(*attributes.values())
            self.assertEqual(vars(made), attributes, error)

    def test_neither_fewer_nor_more_values_are_taken(self):
        for error, attributes in ATTRIBUTES.items():
            values = list(attributes.values())
            with self.assertRaises(TypeError):
                error(*values[1:])
            with self.assertRaises(TypeError):
                error(*values, 1)

    def test_the_attributes_keep_the_place_minus_1(self):
        self.assertEqual(TaskError("no steps", -1).place, -1)
        self.assertEqual(MachineError(-1).place, -1)

    def test_messages_tell_the_values(self):
        for error, attributes in ATTRIBUTES.items():
            message = str(error(*attributes.values()))
            for value in attributes.values():
                self.assertIn(str(value), message)

    def test_an_error_is_caught_by_the_base_class_and_by_no_other_one(self):
        for error, attributes in ATTRIBUTES.items():
            made = error(*attributes.values())
            self.assertIsInstance(made, TidyError)
            for other in ATTRIBUTES:
                self.assertEqual(isinstance(made, other), other is error)


if __name__ == "__main__":
    unittest.main()
