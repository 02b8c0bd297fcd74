"""[7]: the task of a program."""

import unittest

from samples import ALL_RETURNED, EXAMPLE, LONGEST, SHORTEST
from tidyback.programs import read_program, task_of


class TaskOfTest(unittest.TestCase):
    def test_steps_that_use_none(self):
        self.assertEqual(task_of(SHORTEST), (((),), (0,)))
        program = read_program("mod 5\ninputs 3\ns0 = x0 + x2\ns1 = 4 * x1\ns2 = 0 - 1\nreturn s1\n")
        self.assertEqual(task_of(program), (((), (), ()), (1,)))

    def test_the_same_step_twice_is_used_once(self):
        program = read_program("mod 5\ninputs 1\ns0 = x0 + 1\ns1 = s0 * s0\nreturn s1\n")
        self.assertEqual(task_of(program), (((), (0,)), (1,)))

    def test_two_steps_are_ascending_whatever_their_order(self):
        head = "mod 5\ninputs 1\ns0 = x0 + 1\ns1 = x0 + 2\ns2 = x0 + 3\n"
        for left in range(3):
            for right in range(3):
                program = read_program(f"{head}s3 = s{left} - s{right}\nreturn s3\n")
                used = tuple(sorted({left, right}))
                self.assertEqual(task_of(program), (((), (), (), used), (3,)))

    def test_a_step_beside_an_input_or_a_constant(self):
        program = read_program("mod 5\ninputs 2\ns0 = x0 + 1\ns1 = 4 - s0\ns2 = x1 * s1\n"
                               "s3 = s1 * x0\ns4 = s2 + 0\nreturn s4\n")
        self.assertEqual(task_of(program), (((), (0,), (1,), (1,), (2,)), (4,)))

    def test_inputs_and_constants_are_no_steps(self):
        program = read_program("mod 5\ninputs 2\ns0 = x0 + 1\ns1 = x0 + 0\ns2 = 1 * x1\nreturn s2\n")
        self.assertEqual(task_of(program), (((), (), ()), (2,)))

    def test_several_outputs_are_the_targets(self):
        self.assertEqual(task_of(ALL_RETURNED), (((), (), (0, 1)), (0, 1, 2)))
        self.assertEqual(
            task_of(LONGEST), (((), (), (0,), (), (3,), (1,), (4, 5), (2, 6)), (0, 4, 6, 7)))

    def test_the_kinds_of_a_task(self):
        uses, targets = task_of(EXAMPLE)
        self.assertEqual([type(task_of(EXAMPLE)), type(uses), type(targets)], [tuple, tuple, tuple])
        for used in uses:
            self.assertIs(type(used), tuple)
            self.assertTrue(all(type(step) is int for step in used))

    def test_programs_beyond_the_limits_have_tasks(self):
        steps = [("+", "x0", "1100")] + [("+", f"s{k}", "x11") for k in range(11)]
        uses = [()] + [(k,) for k in range(11)]
        self.assertEqual(task_of((1200, 12, tuple(steps), (11,))), (tuple(uses), (11,)))

    def test_the_example_of_the_document(self):
        self.assertEqual(task_of(EXAMPLE), (((), (0,), (1,), (2,)), (3,)))


if __name__ == "__main__":
    unittest.main()
