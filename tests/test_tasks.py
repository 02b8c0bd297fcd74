"""[7]: tasks with their faults, and the steps that are needed."""

import copy
import unittest

from oracle import all_tasks
from samples import CHAIN, LONG_CHAIN, PYRAMID, TASKS, TWIN
from tidyback.errors import TaskError
from tidyback.programs import read_program, task_of
from tidyback.tasks import needed, task


def fault(uses, targets):
    """Return the pair (what, place) of the fault of the lists of a task, or None."""
    try:
        task(uses, targets)
    except TaskError as error:
        return error.what, error.place
    return None


class TaskTest(unittest.TestCase):
    def test_tasks_are_made_of_lists(self):
        for uses, targets in TASKS:
            made = task([list(used) for used in uses], list(targets))
            self.assertEqual(made, (uses, targets))
        self.assertEqual(task([[]], [0]), (((),), (0,)))
        self.assertEqual(task([[], [0], [], [0, 1, 2]], [1, 3]), (((), (0,), (), (0, 1, 2)), (1, 3)))

    def test_all_lists_of_four_steps_are_right(self):
        for uses, targets in all_tasks(4):
            self.assertEqual(task([list(used) for used in uses], list(targets)), (uses, targets))

    def test_the_kinds_of_a_task(self):
        made = task([[], [0], [0, 1]], [1, 2])
        uses, targets = made
        self.assertEqual([type(made), type(uses), type(targets)], [tuple, tuple, tuple])
        self.assertTrue(all(type(used) is tuple for used in uses))

    def test_the_lists_stay_as_they_are(self):
        uses, targets = [[], [0], [0, 1]], [0, 2]
        made = task(uses, targets)
        self.assertEqual((uses, targets), ([[], [0], [0, 1]], [0, 2]))
        uses[2].append(7)
        uses.append([])
        targets.clear()
        self.assertEqual(made, (((), (0,), (0, 1)), (0, 2)))

    def test_lists_with_faults_stay_as_they_are(self):
        for uses, targets in (([], [1]), ([[], [1, 0]], []), ([[]], [2, 1]), ([[]] * 9, [0])):
            before = copy.deepcopy((uses, targets))
            self.assertIsNotNone(fault(uses, targets))
            self.assertEqual((uses, targets), before)

    def test_one_step_and_eight_are_right(self):
        self.assertIsNone(fault([[]], [0]))
        self.assertIsNone(fault([[]] * 8, [7]))
        full = [list(range(step)) for step in range(8)]
        self.assertEqual(task(full, list(range(8))), (tuple(map(tuple, full)), tuple(range(8))))


class FaultsTest(unittest.TestCase):
    def test_no_steps(self):
        self.assertEqual(fault([], [0]), ("no steps", -1))

    def test_too_many_steps(self):
        self.assertEqual(fault([[]] * 9, [0]), ("too many steps", -1))
        self.assertEqual(fault([[]] * 20, [19]), ("too many steps", -1))
        self.assertEqual(fault([[]] + [[k] for k in range(8)], [8]), ("too many steps", -1))

    def test_wrong_use_of_something_that_is_no_earlier_step(self):
        self.assertEqual(fault([[-1]], [0]), ("wrong use", 0))
        self.assertEqual(fault([[0]], [0]), ("wrong use", 0))
        self.assertEqual(fault([[1], []], [0]), ("wrong use", 0))
        self.assertEqual(fault([[], [-1]], [0]), ("wrong use", 1))
        self.assertEqual(fault([[], [-1, 0]], [0]), ("wrong use", 1))
        self.assertEqual(fault([[], [1]], [0]), ("wrong use", 1))
        self.assertEqual(fault([[], [0, 1]], [0]), ("wrong use", 1))
        self.assertEqual(fault([[], [2], []], [0]), ("wrong use", 1))
        self.assertEqual(fault([[], [0], [0, 1, 8]], [0]), ("wrong use", 2))

    def test_wrong_use_that_is_not_ascending(self):
        self.assertEqual(fault([[], [], [1, 0]], [2]), ("wrong use", 2))
        self.assertEqual(fault([[], [], [1, 1]], [2]), ("wrong use", 2))
        self.assertEqual(fault([[], [0, 0]], [1]), ("wrong use", 1))
        self.assertEqual(fault([[], [], [], [0, 2, 1]], [3]), ("wrong use", 3))
        self.assertEqual(fault([[], [], [], [1, 0, 2]], [3]), ("wrong use", 3))

    def test_the_first_step_with_a_wrong_use_counts(self):
        self.assertEqual(fault([[], [0], [2], [1, 0], [9]], [4]), ("wrong use", 2))
        self.assertEqual(fault([[], [0], [0, 1], [1, 0], [9]], [4]), ("wrong use", 3))
        self.assertEqual(fault([[]] * 7 + [[7]], [4]), ("wrong use", 7))

    def test_no_targets(self):
        self.assertEqual(fault([[]], []), ("no targets", -1))
        self.assertEqual(fault([[], [0]], []), ("no targets", -1))

    def test_wrong_target_that_is_no_step(self):
        self.assertEqual(fault([[], [0]], [-1]), ("wrong target", 0))
        self.assertEqual(fault([[], [0]], [2]), ("wrong target", 0))
        self.assertEqual(fault([[], [0]], [0, 2]), ("wrong target", 1))
        self.assertEqual(fault([[], [0]], [0, 1, 2]), ("wrong target", 2))
        self.assertEqual(fault([[], [0]], [100]), ("wrong target", 0))
        self.assertEqual(fault([[]] * 8, [0, 7, 8]), ("wrong target", 2))

    def test_wrong_target_that_is_not_ascending(self):
        self.assertEqual(fault([[], [0]], [1, 0]), ("wrong target", 1))
        self.assertEqual(fault([[], [0]], [0, 0]), ("wrong target", 1))
        self.assertEqual(fault([[], [0]], [1, 1]), ("wrong target", 1))
        self.assertEqual(fault([[], [0], []], [0, 2, 1]), ("wrong target", 2))
        self.assertEqual(fault([[], [0], []], [1, 2, 0]), ("wrong target", 2))
        self.assertEqual(fault([[], [0], []], [0, -1]), ("wrong target", 1))

    def test_the_first_wrong_target_counts(self):
        self.assertEqual(fault([[], [0], []], [2, 1, 5]), ("wrong target", 1))
        self.assertEqual(fault([[], [0], []], [5, 1, 0]), ("wrong target", 0))
        self.assertEqual(fault([[], [0], []], [0, 0, 3, -1]), ("wrong target", 1))

    def test_the_first_of_several_faults_counts(self):
        self.assertEqual(fault([], []), ("no steps", -1))
        self.assertEqual(fault([[0]] * 9, []), ("too many steps", -1))
        self.assertEqual(fault([[]] * 9, [9, 9]), ("too many steps", -1))
        self.assertEqual(fault([[], [1]], []), ("wrong use", 1))
        self.assertEqual(fault([[], [1]], [2, 1]), ("wrong use", 1))


class NeededTest(unittest.TestCase):
    def test_targets_are_needed(self):
        self.assertEqual(needed((((),), (0,))), (0,))
        self.assertEqual(needed((((), (), ()), (1,))), (1,))
        self.assertEqual(needed((((), (), ()), (0, 2))), (0, 2))

    def test_what_a_needed_step_uses_is_needed(self):
        self.assertEqual(needed(CHAIN), (0, 1, 2, 3))
        self.assertEqual(needed((CHAIN[0], (1,))), (0, 1))
        self.assertEqual(needed((CHAIN[0], (2,))), (0, 1, 2))
        self.assertEqual(needed(LONG_CHAIN), tuple(range(8)))
        self.assertEqual(needed(PYRAMID), tuple(range(6)))
        self.assertEqual(needed((PYRAMID[0], (3,))), (0, 1, 3))
        self.assertEqual(needed((PYRAMID[0], (2, 3))), (0, 1, 2, 3))

    def test_steps_that_use_needed_ones_need_not_be_needed(self):
        self.assertEqual(needed(TWIN), (0, 1, 2, 3, 4))
        self.assertEqual(needed((TWIN[0], (5,))), (0, 2, 5))
        self.assertEqual(needed((TWIN[0], (0,))), (0,))

    def test_all_tasks_of_four_steps(self):
        for each in all_tasks(4):
            uses, targets = each
            found = set(targets)
            while any(used not in found for step in found for used in uses[step]):
                found |= {used for step in found for used in uses[step]}
            self.assertEqual(needed(each), tuple(sorted(found)))
            self.assertIs(type(needed(each)), tuple)

    def test_the_task_of_a_program(self):
        program = read_program("mod 5\ninputs 2\ns0 = x0 + x1\ns1 = s0 * s0\ns2 = x1 - 3\ns3 = s2 * s0\nreturn s3\n")
        self.assertEqual(task_of(program), task([[], [0], [], [0, 2]], [3]))
        self.assertEqual(needed(task_of(program)), (0, 2, 3))

    def test_tasks_beyond_the_limit(self):
        uses = ((),) + tuple((step,) for step in range(11))
        self.assertEqual(needed((uses, (9,))), tuple(range(10)))


if __name__ == "__main__":
    unittest.main()
