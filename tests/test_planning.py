"""[10] and [11]: shortest plans, fewest registers and tradeoffs."""

import unittest
from itertools import product

from oracle import all_tasks, shortest, subsets
from samples import CHAIN, EXAMPLE, FORK, FREE, LONG_CHAIN, PYRAMID, TASKS, WIDE
from tidyback.errors import PlanError
from tidyback.planning import fewest_registers, shortest_plan, tradeoff
from tidyback.programs import task_of
from tidyback.tasks import look, walk


def first_of_all_plans(task, registers, most):
    """Return the first plan that solves the task, of all plans with up to so many moves, or None."""
    for moves in range(most + 1):
        for plan in product(range(len(task[0])), repeat=moves):
            try:
                _, peak, solves = look(task, list(plan))
            except PlanError:
                continue
            if solves and peak <= registers:
                return list(plan)
    return None


class ShortestPlanTest(unittest.TestCase):
    def test_one_step(self):
        for registers in (1, 2, 8):
            self.assertEqual(shortest_plan((((),), (0,)), registers), [0])

    def test_too_few_registers_just_enough_and_more(self):
        self.assertIsNone(shortest_plan(CHAIN, 1))
        self.assertIsNone(shortest_plan(CHAIN, 2))
        self.assertEqual(shortest_plan(CHAIN, 3), [0, 1, 0, 2, 3, 2, 0, 1, 0])
        self.assertEqual(shortest_plan(CHAIN, 4), [0, 1, 2, 3, 2, 1, 0])
        self.assertEqual(shortest_plan(CHAIN, 8), [0, 1, 2, 3, 2, 1, 0])
        self.assertIsNone(shortest_plan(FORK, 2))
        self.assertEqual(shortest_plan(FORK, 3), [0, 1, 2, 0, 1])
        self.assertIsNone(shortest_plan(FREE, 2))
        self.assertEqual(shortest_plan(FREE, 3), [0, 1, 2])

    def test_eight_steps(self):
        self.assertIsNone(shortest_plan(LONG_CHAIN, 3))
        found = [len(shortest_plan(LONG_CHAIN, registers)) for registers in (4, 5, 6, 7, 8)]
        self.assertEqual(found, [25, 21, 19, 17, 15])
        self.assertEqual(shortest_plan(LONG_CHAIN, 8), [0, 1, 2, 3, 4, 5, 6, 7, 6, 5, 4, 3, 2, 1, 0])
        self.assertEqual(shortest_plan(WIDE, 8), [1, 4, 7])
        self.assertIsNone(shortest_plan(WIDE, 2))
        full = (tuple(tuple(range(step)) for step in range(8)), (7,))
        self.assertEqual(shortest_plan(full, 8), [0, 1, 2, 3, 4, 5, 6, 7, 6, 5, 4, 3, 2, 1, 0])

    def test_of_several_shortest_plans_the_first_one_counts(self):
        self.assertEqual(shortest_plan((((), (), ()), (0, 2)), 2), [0, 2])
        self.assertEqual(shortest_plan(((), ()), 1, goal=()), [])
        # [1, 0, 2, 0, 1] and others solve it with as many moves.
        self.assertEqual(shortest_plan(FORK, 4), [0, 1, 2, 0, 1])
        self.assertEqual(shortest_plan(PYRAMID, 6), [0, 1, 2, 3, 4, 5, 3, 0, 4, 1, 2])

    def test_all_plans_of_all_tasks_of_three_steps(self):
        for task in all_tasks(3):
            for registers in (1, 2, 3):
                found = shortest_plan(task, registers)
                if found is None:
                    self.assertIsNone(first_of_all_plans(task, registers, 4))
                else:
                    self.assertEqual(found, first_of_all_plans(task, registers, len(found)))

    def test_all_tasks_of_four_steps(self):
        for task in all_tasks(4):
            for registers in (2, 3, 4):
                self.assertEqual(shortest_plan(task, registers), shortest(task, registers), (task, registers))

    def test_all_tasks_of_the_samples(self):
        for task in (*TASKS, LONG_CHAIN, WIDE):
            for registers in range(1, 9):
                self.assertEqual(shortest_plan(task, registers), shortest(task, registers), (task, registers))

    def test_the_plan_solves_the_task_within_the_registers(self):
        for task in TASKS:
            for registers in range(1, 9):
                plan = shortest_plan(task, registers)
                if plan is not None:
                    last, peak, solves = look(task, plan)
                    self.assertTrue(solves and last == task[1] and peak <= registers)

    def test_the_list_is_new_each_time(self):
        first = shortest_plan(CHAIN, 3)
        first.clear()
        self.assertEqual(shortest_plan(CHAIN, 3), [0, 1, 0, 2, 3, 2, 0, 1, 0])
        self.assertIs(type(first), list)
        empty = shortest_plan(CHAIN, 3, start=(3,))
        empty.append(1)
        self.assertEqual(shortest_plan(CHAIN, 3, start=(3,)), [])


class StartAndGoalTest(unittest.TestCase):
    def test_a_start(self):
        self.assertEqual(shortest_plan(CHAIN, 3, start=(0,)), [1, 0, 2, 3, 2, 0, 1, 0])
        self.assertEqual(shortest_plan(CHAIN, 3, start=(1, 2)), [3, 2, 0, 1, 0])
        self.assertEqual(shortest_plan(CHAIN, 4, start=(0, 1, 2, 3)), [2, 1, 0])
        self.assertIsNone(shortest_plan(CHAIN, 2, start=(0,)))

    def test_a_start_with_more_steps_than_registers(self):
        self.assertIsNone(shortest_plan(CHAIN, 1, start=(2, 3)))
        self.assertIsNone(shortest_plan(CHAIN, 3, start=(0, 1, 2, 3)))
        self.assertIsNone(shortest_plan(FREE, 2, start=(0, 1, 2), goal=(0, 1)))

    def test_a_start_with_more_steps_than_registers_that_is_the_goal(self):
        self.assertIsNone(shortest_plan(FREE, 2, start=(0, 1, 2)))
        self.assertIsNone(shortest_plan(CHAIN, 1, start=(0, 1), goal=(0, 1)))

    def test_a_start_with_as_many_steps_as_registers(self):
        self.assertEqual(shortest_plan(FREE, 3, start=(0, 1, 2), goal=()), [0, 1, 2])
        self.assertEqual(shortest_plan(CHAIN, 2, start=(0, 3), goal=(3,)), [0])

    def test_a_start_that_is_the_goal(self):
        self.assertEqual(shortest_plan(CHAIN, 1, start=(3,)), [])
        self.assertEqual(shortest_plan(CHAIN, 1, goal=()), [])
        self.assertEqual(shortest_plan(CHAIN, 2, start=(0, 2), goal=(0, 2)), [])

    def test_a_goal(self):
        self.assertEqual(shortest_plan(CHAIN, 2, goal=(1,)), [0, 1, 0])
        self.assertEqual(shortest_plan(CHAIN, 2, goal=(1, 2)), [0, 1, 0, 2])
        self.assertIsNone(shortest_plan(CHAIN, 2, goal=(2,)))
        self.assertEqual(shortest_plan(CHAIN, 3, goal=(2,)), [0, 1, 2, 1, 0])

    def test_a_goal_that_is_none_or_left_out(self):
        self.assertEqual(shortest_plan(CHAIN, 3, goal=None), [0, 1, 0, 2, 3, 2, 0, 1, 0])
        self.assertEqual(shortest_plan(CHAIN, 3, start=(), goal=None), shortest_plan(CHAIN, 3))

    def test_the_empty_configuration_is_a_goal_too(self):
        self.assertEqual(shortest_plan(CHAIN, 3, start=(1,), goal=()), [0, 1, 0])
        self.assertEqual(shortest_plan(CHAIN, 4, start=(3,), goal=()), [0, 1, 2, 3, 2, 1, 0])

    def test_a_goal_with_more_steps_than_registers(self):
        self.assertIsNone(shortest_plan(FREE, 2, goal=(0, 1, 2)))
        self.assertIsNone(shortest_plan(CHAIN, 1, start=(2,), goal=(2, 3)))

    def test_each_start_and_goal(self):
        for task in (CHAIN, FORK, FREE):
            every = subsets(len(task[0]))
            for registers in range(1, len(task[0]) + 1):
                for start, goal in product(every, every):
                    found = shortest_plan(task, registers, start=start, goal=goal)
                    self.assertEqual(found, shortest(task, registers, start, goal))
                    if found is not None:
                        walked = walk(task, found, start=start)
                        self.assertEqual(walked[-1], goal)
                        self.assertLessEqual(max(map(len, walked)), registers)

    def test_start_and_goal_are_passed_by_keyword_only(self):
        with self.assertRaises(TypeError):
            shortest_plan(CHAIN, 3, ())


class TradeoffTest(unittest.TestCase):
    def test_fewest_registers(self):
        found = [fewest_registers(task) for task in (*TASKS, LONG_CHAIN, WIDE)]
        self.assertEqual(found, [3, 3, 3, 5, 4, 1, 2, 4, 3])

    def test_fewest_registers_of_all_tasks_of_four_steps(self):
        for task in all_tasks(4):
            least = [shortest(task, registers) is None for registers in (1, 2, 3, 4)].count(True) + 1
            self.assertEqual(fewest_registers(task), least)

    def test_as_many_registers_as_steps_are_needed(self):
        full = (tuple(tuple(range(step)) for step in range(8)), (7,))
        self.assertEqual(fewest_registers(full), 8)
        self.assertEqual(tradeoff(full), [(8, 15)])
        self.assertEqual(tradeoff((((),) * 8, tuple(range(8)))), [(8, 8)])

    def test_further_registers_that_help(self):
        self.assertEqual(tradeoff(CHAIN), [(3, 9), (4, 7)])
        self.assertEqual(tradeoff(LONG_CHAIN), [(4, 25), (5, 21), (6, 19), (7, 17), (8, 15)])
        self.assertEqual(tradeoff(PYRAMID), [(5, 13), (6, 11)])

    def test_further_registers_that_do_not_help(self):
        self.assertEqual(tradeoff((((),), (0,))), [(1, 1)])
        self.assertEqual(tradeoff(FORK), [(3, 5)])
        self.assertEqual(tradeoff(FREE), [(3, 3)])
        self.assertEqual(tradeoff(WIDE), [(3, 3)])

    def test_tradeoffs_of_five_steps(self):
        found = 0
        for task in all_tasks(5)[::97]:
            pairs = []
            for registers in range(1, 9):
                plan = shortest(task, registers)
                if plan is not None and all(len(plan) < moves for _, moves in pairs):
                    pairs.append((registers, len(plan)))
            self.assertEqual(tradeoff(task), pairs)
            found += len(pairs) > 1
        self.assertGreater(found, 0)

    def test_the_first_pair_has_the_fewest_registers(self):
        for task in (*TASKS, LONG_CHAIN, WIDE):
            pairs = tradeoff(task)
            self.assertEqual(pairs[0][0], fewest_registers(task))
            for registers, moves in pairs:
                self.assertEqual(len(shortest_plan(task, registers)), moves)

    def test_the_kinds_and_a_new_list_each_time(self):
        first = tradeoff(CHAIN)
        self.assertIs(type(first), list)
        self.assertTrue(all(type(pair) is tuple for pair in first))
        first.clear()
        self.assertEqual(tradeoff(CHAIN), [(3, 9), (4, 7)])
        self.assertIs(type(fewest_registers(CHAIN)), int)

    def test_steps_and_registers_beyond_the_limits(self):
        wide = (((),) * 9, tuple(range(9)))
        self.assertEqual(shortest_plan(wide, 9), list(range(9)))
        self.assertIsNone(shortest_plan(wide, 8))
        self.assertEqual(fewest_registers(wide), 9)
        self.assertEqual(tradeoff(wide), [(9, 9)])
        self.assertIsNone(shortest_plan(CHAIN, 0))
        self.assertEqual(shortest_plan(CHAIN, 10), [0, 1, 2, 3, 2, 1, 0])

    def test_the_examples_of_the_document(self):
        task = task_of(EXAMPLE)
        self.assertEqual(task, CHAIN)
        self.assertEqual(
            (fewest_registers(task), tradeoff(task), shortest_plan(task, 3)),
            (3, [(3, 9), (4, 7)], [0, 1, 0, 2, 3, 2, 0, 1, 0]))


if __name__ == "__main__":
    unittest.main()
