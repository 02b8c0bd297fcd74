"""[4]: the values of steps."""

import unittest

from samples import EXAMPLE, LONGEST, LONGEST_TEXT
from tidyback.programs import evaluate, read_program


def value(modulus, operation, left, right):
    """Return the value of a program of one step over two inputs."""
    program = (modulus, 2, ((operation, "x0", "x1"),), (0,))
    values = evaluate(program, [left, right])
    assert len(values) == 1
    return values[0]


class ValuesTest(unittest.TestCase):
    def test_each_operation_on_all_inputs_of_small_moduli(self):
        for modulus in (2, 3, 7, 10):
            for left in range(modulus):
                for right in range(modulus):
                    self.assertEqual(value(modulus, "+", left, right), (left + right) % modulus)
                    self.assertEqual(value(modulus, "-", left, right), (left - right) % modulus)
                    self.assertEqual(value(modulus, "*", left, right), (left * right) % modulus)

    def test_results_below_0_and_beyond_the_modulus(self):
        self.assertEqual(value(10, "-", 0, 9), 1)
        self.assertEqual(value(10, "-", 3, 4), 9)
        self.assertEqual(value(10, "+", 9, 9), 8)
        self.assertEqual(value(10, "+", 5, 5), 0)
        self.assertEqual(value(10, "*", 9, 9), 1)
        self.assertEqual(value(1000, "*", 999, 999), 1)
        self.assertEqual(value(1000, "*", 999, 998), 2)
        self.assertEqual(value(1000, "-", 0, 999), 1)
        self.assertEqual(value(1000, "+", 999, 999), 998)
        self.assertEqual(value(2, "-", 0, 1), 1)
        self.assertEqual(value(2, "+", 1, 1), 0)

    def test_left_and_right_stand_in_their_order(self):
        self.assertEqual(value(100, "-", 70, 1), 69)
        self.assertEqual(value(100, "-", 1, 70), 31)

    def test_constants_are_no_numbers_of_inputs_or_steps(self):
        program = read_program("mod 50\ninputs 2\ns0 = 1 + 0\ns1 = 49 - 1\ns2 = x1 * 0\ns3 = s1 * 49\nreturn s3\n")
        self.assertEqual(evaluate(program, [7, 8]), [1, 48, 0, 2])

    def test_the_same_operand_twice(self):
        program = read_program("mod 11\ninputs 1\ns0 = x0 * x0\ns1 = s0 - s0\ns2 = s0 + s0\nreturn s2\n")
        self.assertEqual(evaluate(program, [4]), [5, 0, 10])

    def test_all_steps_have_values_not_the_outputs_alone(self):
        modulus, inputs, steps, _ = EXAMPLE
        self.assertEqual(evaluate((modulus, inputs, steps, (0,)), [5, 7]), [12, 47, 44, 26])

    def test_eight_steps_over_six_inputs(self):
        program = read_program(LONGEST_TEXT)
        self.assertEqual(evaluate(program, [1, 2, 3, 4, 5, 6]), [7, 998, 7, 999, 998, 990, 992, 944])
        self.assertEqual(evaluate(program, [0] * 6), [0] * 8)
        self.assertEqual(evaluate(program, [999] * 6), [998, 1, 998, 0, 0, 999, 999, 2])

    def test_each_value_is_from_0_to_the_modulus_minus_1(self):
        for first in (0, 1, 500, 998, 999):
            for second in (0, 1, 499, 999):
                for each in evaluate(LONGEST, [first, second] * 3):
                    self.assertIn(each, range(1000))

    def test_the_list_is_new_each_time(self):
        first = evaluate(EXAMPLE, [5, 7])
        first.append(100)
        first[0] = -1
        second = evaluate(EXAMPLE, [5, 7])
        self.assertEqual(second, [12, 47, 44, 26])
        self.assertIs(type(second), list)
        self.assertIsNot(first, second)

    def test_the_list_that_is_passed_stays_as_it_is(self):
        inputs = [5, 7]
        values = evaluate(EXAMPLE, inputs)
        values.clear()
        self.assertEqual(inputs, [5, 7])

    def test_programs_beyond_the_limits_have_values(self):
        steps = tuple(("+", f"x{k}", "1100") for k in range(9))
        self.assertEqual(evaluate((1200, 9, steps, (8,)), [101] * 9), [1] * 9)

    def test_the_example_of_the_document(self):
        self.assertEqual(evaluate(EXAMPLE, [5, 7]), [12, 47, 44, 26])


if __name__ == "__main__":
    unittest.main()
