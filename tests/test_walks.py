"""[8] and [9]: moves, and the configurations of plans."""

import unittest

from oracle import all_tasks, configuration_of, edges, subsets
from samples import CHAIN, FORK, FREE, PYRAMID, TWIN, WIDE
from tidyback.errors import PlanError
from tidyback.tasks import is_possible, look, walk


def fault(function, *passed, **named):
    """Return the pair (what, place) of the PlanError that a call raises, or None."""
    try:
        function(*passed, **named)
    except PlanError as error:
        return error.what, error.place
    return None


class IsPossibleTest(unittest.TestCase):
    def test_all_that_is_used_has_to_be_held(self):
        self.assertIs(is_possible(FORK, (), 0), True)
        self.assertIs(is_possible(FORK, (), 2), False)
        self.assertIs(is_possible(FORK, (0,), 2), False)
        self.assertIs(is_possible(FORK, (1,), 2), False)
        self.assertIs(is_possible(FORK, (0, 1), 2), True)

    def test_steps_that_are_held_are_removed_under_the_same_condition(self):
        self.assertIs(is_possible(FORK, (0, 1, 2), 2), True)
        self.assertIs(is_possible(FORK, (0, 2), 2), False)
        self.assertIs(is_possible(FORK, (2,), 2), False)
        self.assertIs(is_possible(FORK, (2,), 0), True)
        self.assertIs(is_possible(FORK, (0, 1, 2), 0), True)

    def test_only_what_the_step_uses_itself_counts(self):
        self.assertIs(is_possible(CHAIN, (2,), 3), True)
        self.assertIs(is_possible(CHAIN, (0, 1), 3), False)

    def test_all_moves_of_three_steps(self):
        for task in all_tasks(3):
            graph = edges(task, 3)
            for number, led in enumerate(graph):
                for step in range(3):
                    found = is_possible(task, configuration_of(number), step)
                    self.assertIs(found, step in led)


class WalkTest(unittest.TestCase):
    def test_the_empty_plan(self):
        self.assertEqual(walk(CHAIN, []), [()])
        self.assertEqual(walk(CHAIN, [], start=(1, 3)), [(1, 3)])

    def test_moves_add_and_remove_steps(self):
        self.assertEqual(walk(CHAIN, [0]), [(), (0,)])
        self.assertEqual(walk(CHAIN, [0, 0]), [(), (0,), ()])
        self.assertEqual(walk(CHAIN, [0, 1, 0, 2]), [(), (0,), (0, 1), (1,), (1, 2)])
        self.assertEqual(walk(FREE, [2, 0, 1, 2]), [(), (2,), (0, 2), (0, 1, 2), (0, 1)])
        self.assertEqual(walk(FORK, [1, 0, 2, 1]), [(), (1,), (0, 1), (0, 1, 2), (0, 2)])

    def test_a_start(self):
        self.assertEqual(walk(CHAIN, [3, 2, 0], start=(1, 2)), [(1, 2), (1, 2, 3), (1, 3), (0, 1, 3)])
        self.assertEqual(walk(CHAIN, [3, 0], start=(2,)), [(2,), (2, 3), (0, 2, 3)])

    def test_each_configuration_is_an_ascending_tuple(self):
        for configuration in walk(WIDE, [5, 2, 7, 0, 2, 6, 1, 5, 3]):
            self.assertIs(type(configuration), tuple)
            self.assertEqual(list(configuration), sorted(set(configuration)))

    def test_a_move_that_is_not_possible(self):
        self.assertEqual(fault(walk, CHAIN, [1]), ("not possible", 0))
        self.assertEqual(fault(walk, CHAIN, [0, 2]), ("not possible", 1))
        self.assertEqual(fault(walk, CHAIN, [0, 1, 0, 1]), ("not possible", 3))
        self.assertEqual(fault(walk, FORK, [0, 2, 1, 2]), ("not possible", 1))
        self.assertEqual(fault(walk, FORK, [0, 1, 2, 0, 2]), ("not possible", 4))

    def test_the_first_move_that_is_not_possible_counts(self):
        self.assertEqual(fault(walk, CHAIN, [0, 3, 2, 3]), ("not possible", 1))
        self.assertEqual(fault(walk, CHAIN, [3, 2, 1]), ("not possible", 0))

    def test_a_move_that_is_not_possible_behind_a_start(self):
        self.assertEqual(fault(walk, CHAIN, [2], start=(0,)), ("not possible", 0))
        self.assertEqual(fault(walk, CHAIN, [0, 2], start=(1,)), None)
        self.assertEqual(fault(walk, CHAIN, [2, 0, 1, 0, 2], start=(1,)), ("not possible", 4))

    def test_the_number_of_registers_is_without_a_limit(self):
        self.assertEqual(walk(WIDE, list(range(8)))[-1], tuple(range(8)))

    def test_a_plan_run_back_leads_back(self):
        for task, plan in ((CHAIN, [0, 1, 0, 2, 3, 2, 0, 1, 0]), (PYRAMID, [0, 1, 3, 2, 4, 5, 3, 0]),
                           (TWIN, [0, 1, 2, 3, 4, 3, 2, 1, 0])):
            forward = walk(task, plan)
            back = walk(task, plan[::-1], start=forward[-1])
            self.assertEqual(back, forward[::-1])

    def test_the_list_is_new_and_the_plan_as_it_was(self):
        plan = [0, 1]
        first = walk(CHAIN, plan)
        first.clear()
        self.assertEqual(walk(CHAIN, plan), [(), (0,), (0, 1)])
        self.assertEqual(walk(CHAIN, [], start=()), [()])
        self.assertIs(type(first), list)
        self.assertEqual(plan, [0, 1])

    def test_plans_beyond_the_limit(self):
        self.assertEqual(walk(CHAIN, [0] * 301)[-1], (0,))
        self.assertEqual(look(CHAIN, [0] * 600), ((), 1, False))

    def test_start_is_passed_by_keyword_only(self):
        with self.assertRaises(TypeError):
            walk(CHAIN, [], (0,))


class LookTest(unittest.TestCase):
    def test_plans_that_solve(self):
        self.assertEqual(look(CHAIN, [0, 1, 0, 2, 3, 2, 0, 1, 0]), ((3,), 3, True))
        self.assertEqual(look(CHAIN, [0, 1, 2, 3, 2, 1, 0]), ((3,), 4, True))
        self.assertEqual(look(FREE, [2, 1, 0]), ((0, 1, 2), 3, True))
        self.assertEqual(look((((),), (0,)), [0]), ((0,), 1, True))
        self.assertEqual(look((((),), (0,)), [0, 0, 0]), ((0,), 1, True))

    def test_steps_that_are_left_over(self):
        self.assertEqual(look(CHAIN, [0, 1, 2, 3]), ((0, 1, 2, 3), 4, False))
        self.assertEqual(look(CHAIN, [0, 1, 2, 3, 2, 1]), ((0, 3), 4, False))

    def test_targets_that_are_missing(self):
        self.assertEqual(look(CHAIN, []), ((), 0, False))
        self.assertEqual(look(CHAIN, [0, 1]), ((0, 1), 2, False))
        self.assertEqual(look(FREE, [0, 2]), ((0, 2), 2, False))
        self.assertEqual(look(CHAIN, [0, 1, 2, 3, 3, 2, 1, 0]), ((), 4, False))

    def test_as_many_steps_as_targets_but_others(self):
        self.assertEqual(look(CHAIN, [0]), ((0,), 1, False))

    def test_the_peak_at_the_first_the_last_and_a_middle_configuration(self):
        self.assertEqual(look(FREE, []), ((), 0, False))
        self.assertEqual(look(FREE, [0, 1, 2])[1], 3)
        self.assertEqual(look(FREE, [0, 1, 2, 1, 0])[1], 3)
        self.assertEqual(look(FREE, [0, 1, 0, 1])[1], 2)

    def test_a_plan_that_is_not_valid(self):
        self.assertEqual(fault(look, CHAIN, [1]), ("not possible", 0))
        self.assertEqual(fault(look, CHAIN, [0, 1, 2, 3, 2, 1, 0, 2]), ("not possible", 7))
        self.assertEqual(fault(look, FORK, [0, 1, 2, 0, 1, 2]), ("not possible", 5))

    def test_the_kinds(self):
        found = look(FREE, [1])
        self.assertIs(type(found), tuple)
        self.assertEqual([type(each) for each in found], [tuple, int, bool])

    def test_the_plan_stays_as_it_is(self):
        plan = [0, 1, 2, 3]
        look(CHAIN, plan)
        self.assertEqual(plan, [0, 1, 2, 3])

    def test_only_the_targets_solve(self):
        for chosen in subsets(3):
            for targets in subsets(3)[1:]:
                self.assertEqual(look((FREE[0], targets), list(chosen)), (chosen, len(chosen), chosen == targets))


if __name__ == "__main__":
    unittest.main()
