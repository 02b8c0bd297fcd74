"""[19] and [20]: rounds, schedules, and certificates of numbers of rounds."""

import unittest
from itertools import permutations

import oracle
from oracle import all_tasks, configuration_of, number_of, round_edges, shortest, shortest_rounds, subsets
from samples import CHAIN, FORK, FREE, LONG_CHAIN, PYRAMID, TASKS, TWIN, WIDE
from tidyback.planning import shortest_plan
from tidyback.rounds import (
    is_right_rounds, is_round, round_certificate, shortest_schedule, solves_in_rounds)
from tidyback.tasks import look, task
from variants import changed, replaced

ONE = (((),), (0,))
# Right: the shortest schedule for FORK within 3 registers has 3 rounds.
FORK_LEVELS = (((),), ((0,), (0, 1), (1,)), ((0, 1, 2),))
# Right: within 2 registers there is none.
CHAIN_LEVELS = (((),), ((0,),), ((0, 1),), ((1,),), ((1, 2),))


class IsRoundTest(unittest.TestCase):
    def check(self, task, configuration, steps, least):
        """Check that steps are a round from so many registers on, or never if least is None."""
        for registers in range(1, 9):
            found = is_round(task, configuration, steps, registers)
            self.assertIs(found, least is not None and registers >= least, (steps, registers))

    def test_rounds_that_add(self):
        self.check(FREE, (), (0,), 1)
        self.check(FREE, (), (0, 2), 2)
        self.check(FREE, (1,), (0, 2), 3)
        self.check(CHAIN, (0, 2), (1, 3), 4)

    def test_rounds_that_remove(self):
        self.check(FREE, (1,), (1,), 1)
        self.check(FREE, (0, 1, 2), (0, 2), 3)
        self.check(FREE, (0, 1, 2), (0, 1, 2), 3)
        self.check(FORK, (0, 1, 2), (2,), 3)
        self.check(FORK, (0, 1, 2), (0, 1), 3)

    def test_rounds_that_add_and_remove(self):
        """What is removed occupies its register until the round is over."""
        self.check(FREE, (0,), (0, 1), 2)
        self.check(FREE, (0, 1), (0, 1, 2), 3)
        self.check(CHAIN, (0, 1, 3), (1, 3), None)
        self.check(CHAIN, (0, 1), (0, 2), 3)
        self.check(TWIN, (0, 2, 3), (1, 3), 4)

    def test_a_step_that_another_one_uses(self):
        self.check(FORK, (0, 1), (0, 2), None)
        self.check(FORK, (0, 1), (1, 2), None)
        self.check(FORK, (0, 1), (0, 1, 2), None)
        self.check(FORK, (0, 1, 2), (0, 2), None)
        self.check(CHAIN, (0,), (0, 1), None)
        self.check(CHAIN, (0, 1), (0, 1), None)
        self.check(CHAIN, (0, 1, 2), (0, 1, 2, 3), None)
        self.check(PYRAMID, (0, 1, 2), (0, 1, 2, 4), None)

    def test_only_what_a_step_uses_itself_is_kept_apart(self):
        self.check(CHAIN, (0, 1), (0, 2), 3)
        self.check(CHAIN, (0, 1, 2), (0, 3), 4)
        self.check(PYRAMID, (0, 1, 2, 3, 4), (0, 1, 2, 5), 6)

    def test_a_step_that_is_not_possible(self):
        self.check(FORK, (), (2,), None)
        self.check(FORK, (0,), (2,), None)
        self.check(FORK, (0,), (1, 2), None)
        self.check(FORK, (0, 2), (2,), None)
        self.check(CHAIN, (1,), (0, 3), None)
        self.check(CHAIN, (1,), (0, 2), 3)

    def test_the_empty_round_and_tuples_that_are_none(self):
        self.check(FREE, (), (), None)
        self.check(FREE, (0, 1), (), None)
        for steps in ((1, 0), (0, 0), (0, 2, 1), (-1,), (-1, 0), (3,), (0, 3), (0, 99)):
            self.check(FREE, (), steps, None)
            self.check(FREE, (0, 1, 2), steps, None)

    def test_more_steps_held_than_registers(self):
        self.assertIs(is_round(FREE, (0, 1), (0, 1), 1), False)
        self.assertIs(is_round(FREE, (0, 1), (0,), 1), False)

    def test_all_rounds_of_all_tasks_of_three_steps(self):
        for task in all_tasks(3):
            for registers in range(1, 5):
                for number, led in enumerate(round_edges(task, registers)):
                    for steps in subsets(3):
                        found = is_round(task, configuration_of(number), steps, registers)
                        self.assertIs(found, steps in led)

    def test_numbers_of_registers_beyond_the_limits(self):
        self.assertIs(is_round(FREE, (), (0,), 0), False)
        self.assertIs(is_round(FREE, (), (0, 1, 2), 12), True)


class SolvesTest(unittest.TestCase):
    def test_schedules_that_solve(self):
        self.assertIs(solves_in_rounds(FORK, 3, [(0, 1), (2,), (0, 1)]), True)
        self.assertIs(solves_in_rounds(FORK, 3, [(0,), (1,), (2,), (1,), (0,)]), True)
        self.assertIs(solves_in_rounds(FREE, 3, [(0, 1, 2)]), True)
        self.assertIs(solves_in_rounds(CHAIN, 4, [(0,), (1,), (0, 2), (0, 3), (2,), (1,), (0,)]), True)
        self.assertIs(solves_in_rounds(CHAIN, 4, [(0,), (1,), (0, 2), (0, 3), (0, 2), (0,), (1,), (0,)]), True)
        self.assertIs(solves_in_rounds(CHAIN, 4, [(0,), (1,), (0, 2), (3,), (0, 2), (1,), (0,)]), True)

    def test_the_empty_schedule(self):
        for task in TASKS:
            self.assertIs(solves_in_rounds(task, 8, []), False)

    def test_the_last_configuration_has_to_be_the_targets(self):
        self.assertIs(solves_in_rounds(FORK, 3, [(0, 1), (2,)]), False)
        self.assertIs(solves_in_rounds(FORK, 3, [(0, 1), (2,), (0,)]), False)
        self.assertIs(solves_in_rounds(FORK, 3, [(0, 1)]), False)
        self.assertIs(solves_in_rounds(FORK, 3, [(0, 1), (2,), (2,), (0, 1)]), False)
        self.assertIs(solves_in_rounds(FREE, 3, [(0, 1)]), False)

    def test_a_round_that_is_not_possible(self):
        self.assertIs(solves_in_rounds(FORK, 3, [(2,)]), False)
        self.assertIs(solves_in_rounds(FORK, 3, [(0, 1), (0, 2), (1,)]), False)
        self.assertIs(solves_in_rounds(FORK, 3, [(0, 1, 2), (0, 1)]), False)

    def test_registers_that_are_enough_and_one_fewer(self):
        self.assertIs(solves_in_rounds(FORK, 2, [(0, 1), (2,), (0, 1)]), False)
        self.assertIs(solves_in_rounds(FREE, 2, [(0, 1, 2)]), False)
        swap = ((((), ()), (1,)))
        self.assertIs(solves_in_rounds(swap, 2, [(0,), (0, 1)]), True)
        self.assertIs(solves_in_rounds(swap, 1, [(0,), (0, 1)]), False)
        self.assertIs(solves_in_rounds(swap, 1, [(0,), (0,), (1,)]), True)

    def test_rounds_that_are_none(self):
        self.assertIs(solves_in_rounds(FREE, 3, [(), (0, 1, 2)]), False)
        self.assertIs(solves_in_rounds(FREE, 3, [(0, 1, 2), ()]), False)
        self.assertIs(solves_in_rounds(FREE, 3, [(1, 0, 2)]), False)
        self.assertIs(solves_in_rounds(FREE, 4, [(0, 1, 2, 3)]), False)

    def test_the_schedule_stays_as_it_is(self):
        schedule = [(0, 1), (2,), (0, 1)]
        solves_in_rounds(FORK, 3, schedule)
        self.assertEqual(schedule, [(0, 1), (2,), (0, 1)])

    def test_more_rounds_than_plans_have_moves(self):
        self.assertIs(solves_in_rounds(ONE, 1, [(0,)] * 301), True)
        self.assertIs(solves_in_rounds(ONE, 1, [(0,)] * 300), False)

    def test_the_moves_of_a_schedule_in_any_order_are_a_plan_within_the_registers(self):
        for task in TASKS:
            for registers in range(1, 6):
                schedule = shortest_schedule(task, registers)
                for steps in permutations(range(len(task[0]))) if schedule is not None else ():
                    plan = [step for each in schedule for step in steps if step in each]
                    _, peak, solves = look(task, plan)
                    self.assertTrue(solves and peak <= registers)


class ShortestScheduleTest(unittest.TestCase):
    def test_the_example(self):
        self.assertEqual(shortest_schedule(task([[], [], [0, 1]], [2]), 3), [(0, 1), (2,), (0, 1)])

    def test_too_few_registers_just_enough_and_more(self):
        self.assertIsNone(shortest_schedule(FORK, 1))
        self.assertIsNone(shortest_schedule(FORK, 2))
        self.assertEqual(shortest_schedule(FORK, 8), [(0, 1), (2,), (0, 1)])
        self.assertIsNone(shortest_schedule(FREE, 2))
        self.assertEqual(shortest_schedule(FREE, 3), [(0, 1, 2)])
        self.assertIsNone(shortest_schedule(CHAIN, 2))
        self.assertEqual(
            shortest_schedule(CHAIN, 3), [(0,), (1,), (0, 2), (3,), (2,), (0,), (1,), (0,)])
        self.assertEqual(shortest_schedule(ONE, 1), [(0,)])
        self.assertEqual(shortest_schedule(WIDE, 8), [(1, 4, 7)])
        self.assertIsNone(shortest_schedule(WIDE, 2))

    def test_of_several_shortest_schedules_the_first_one_counts(self):
        self.assertEqual(
            shortest_schedule(CHAIN, 4), [(0,), (1,), (0, 2), (0, 3), (2,), (1,), (0,)])
        self.assertEqual(shortest_schedule((((), (), (0,)), (1, 2)), 3), [(0,), (1, 2), (0,)])
        self.assertEqual(shortest_schedule((((), (), (0,)), (1, 2)), 4), [(0,), (1, 2), (0,)])
        self.assertEqual(shortest_schedule((((), ()), (0, 1)), 2), [(0, 1)])

    def test_a_round_comes_before_those_that_continue_it(self):
        found = shortest_schedule((((), (), (), (0,)), (1, 2, 3)), 4)
        self.assertEqual(found, [(0,), (1, 2, 3), (0,)])
        self.assertLess(found, [(0, 1), (2, 3), (0,)])

    def test_all_tasks_of_four_steps(self):
        for task in (*all_tasks(3), *all_tasks(4)[::3]):
            for registers in (1, 2, 3, 4):
                self.assertEqual(shortest_schedule(task, registers), shortest_rounds(task, registers))

    def test_all_tasks_of_the_samples(self):
        for task in TASKS:
            for registers in range(1, 9):
                self.assertEqual(shortest_schedule(task, registers), shortest_rounds(task, registers))
        for registers in (4, 6):
            self.assertEqual(shortest_schedule(LONG_CHAIN, registers), shortest_rounds(LONG_CHAIN, registers))

    def test_there_is_one_if_there_is_a_plan_and_it_is_no_longer(self):
        for task in (*all_tasks(3), *TASKS, LONG_CHAIN, WIDE):
            for registers in range(1, 9):
                plan, schedule = shortest_plan(task, registers), shortest_schedule(task, registers)
                self.assertEqual(plan is None, schedule is None)
                if plan is not None:
                    self.assertLessEqual(len(schedule), len(plan))
                    self.assertIs(solves_in_rounds(task, registers, schedule), True)

    def test_the_list_is_new_each_time(self):
        first = shortest_schedule(FORK, 3)
        self.assertEqual([type(first), type(first[0])], [list, tuple])
        first.clear()
        self.assertEqual(shortest_schedule(FORK, 3), [(0, 1), (2,), (0, 1)])

    def test_numbers_beyond_the_limits(self):
        self.assertIsNone(shortest_schedule(ONE, 0))
        self.assertEqual(shortest_schedule(FORK, 20), [(0, 1), (2,), (0, 1)])
        self.assertEqual(shortest_schedule((((),) * 9, (3, 8)), 9), [(3, 8)])


class RoundCertificateTest(unittest.TestCase):
    def test_a_task_with_a_schedule(self):
        self.assertEqual(round_certificate(FORK, 3), (3, 3, FORK_LEVELS))
        self.assertEqual(round_certificate(ONE, 1), (1, 1, (((),),)))
        self.assertEqual(round_certificate(FREE, 3), (3, 1, (((),),)))
        self.assertEqual(
            round_certificate((CHAIN[0], (2,)), 3)[2][:3],
            (((),), ((0,),), ((0, 1),)))

    def test_a_task_without_a_schedule(self):
        self.assertEqual(round_certificate(CHAIN, 2), (2, None, CHAIN_LEVELS))
        self.assertEqual(round_certificate(FORK, 1), (1, None, (((),), ((0,), (1,)))))
        self.assertEqual(round_certificate(FORK, 2), (2, None, (((),), ((0,), (0, 1), (1,)))))
        self.assertEqual(
            round_certificate(FREE, 2), (2, None, (((),), ((0,), (0, 1), (0, 2), (1,), (1, 2), (2,)))))

    def test_levels_by_their_words(self):
        for task in (*all_tasks(3), *all_tasks(4)[::31], *TASKS):
            for registers in range(1, 6):
                schedule = shortest_rounds(task, registers)
                many = None if schedule is None else len(schedule)
                levels = oracle.levels_of(task, registers, round_edges, schedule)
                self.assertEqual(round_certificate(task, registers), (registers, many, levels))

    def test_it_is_right(self):
        for task in (*all_tasks(3), *TASKS, LONG_CHAIN, WIDE):
            for registers in range(1, 9):
                self.assertIs(is_right_rounds(task, round_certificate(task, registers)), True)

    def test_the_kinds(self):
        for registers in (2, 3):
            found = round_certificate(FORK, registers)
            self.assertEqual([type(found), type(found[2]), type(found[2][0])], [tuple] * 3)

    def test_numbers_beyond_the_limits(self):
        self.assertEqual(round_certificate(ONE, 0), (0, None, (((),),)))
        self.assertEqual(round_certificate(FORK, 9), (9, 3, FORK_LEVELS))


class IsRightRoundsTest(unittest.TestCase):
    def check(self, task, given, wanted):
        """Check whether a round certificate is right, and that the oracle says the same."""
        self.assertIs(oracle.flaw(task, given, round_edges) is None, wanted)
        self.assertIs(is_right_rounds(task, given), wanted)

    def test_the_empty_configuration_is_missing(self):
        self.check(FORK, (3, 3, FORK_LEVELS), True)
        self.check(FORK, (3, 3, replaced(FORK_LEVELS, 0, [])), False)
        self.check(FORK, (3, 3, replaced(FORK_LEVELS, 0, [(0,)])), False)
        self.check(FORK, (3, 3, (((0,),), ((), *FORK_LEVELS[1]), FORK_LEVELS[2])), False)
        self.check(FORK, (3, 3, replaced(FORK_LEVELS, 0, [(0,), ()])), True)

    def test_the_targets_in_a_level(self):
        for at in range(3):
            self.check(FORK, (3, 3, replaced(FORK_LEVELS, at, [*FORK_LEVELS[at], (2,)])), False)
        self.check(CHAIN, (2, None, (*CHAIN_LEVELS, ((3,),))), False)
        self.check(CHAIN, (2, None, (*CHAIN_LEVELS, ())), True)

    def test_another_number_of_levels(self):
        for many in (1, 2, 4, 255):
            self.check(FORK, (3, many, FORK_LEVELS), False)
        self.check(FORK, (3, 2, FORK_LEVELS[:2]), True)
        self.check(FORK, (3, 1, FORK_LEVELS[:1]), True)
        self.check(CHAIN, (2, 5, CHAIN_LEVELS), True)

    def test_a_round_that_leads_out_of_the_levels(self):
        self.check(FORK, (3, 3, replaced(FORK_LEVELS, 1, [(0,), (1,)])), False)
        self.check(FORK, (3, 3, replaced(FORK_LEVELS, 1, [(0,), (0, 1)])), False)
        self.check(FORK, (3, 3, replaced(FORK_LEVELS, 2, [])), False)
        self.check(FREE, (2, None, (((),), ((0,), (1,), (2,)), ((0, 1), (0, 2), (1, 2)))), False)
        self.check(FREE, (2, None, (((),), ((0,), (1,), (2,), (0, 1), (0, 2), (1, 2)))), True)

    def test_a_certificate_of_moves_is_none_of_rounds(self):
        """Several moves at once lead further than one of them."""
        moves = (((),), ((0,), (1,)), ((0, 1),), ((0, 1, 2),), ((0, 2), (1, 2)))
        self.check(FORK, (3, 5, moves), False)

    def test_the_last_level_without_a_number_of_rounds(self):
        self.check(FORK, (3, None, FORK_LEVELS), False)
        self.check(ONE, (1, None, (((),),)), False)
        self.check(CHAIN, (2, None, CHAIN_LEVELS[:4]), False)
        self.check(CHAIN, (2, None, CHAIN_LEVELS), True)

    def test_a_configuration_with_more_steps_than_registers(self):
        """No round from it is within the registers, so it leads nowhere."""
        self.check(FREE, (1, None, (((), (0, 1)), ((0,), (1,), (2,)))), True)
        self.check(FREE, (2, None, (((),), ((0,), (1,), (2,), (0, 1), (0, 2), (1, 2)), ((0, 1, 2),))), False)
        self.check(FORK, (2, None, (((), (0, 1, 2)), ((0,), (0, 1), (1,)))), True)

    def test_other_numbers_of_registers(self):
        self.check(CHAIN, (1, None, CHAIN_LEVELS), True)
        self.check(CHAIN, (3, None, CHAIN_LEVELS), False)
        self.check(FORK, (8, 3, FORK_LEVELS), True)

    def test_certificates_that_are_changed_a_little(self):
        right = 0
        for task, registers in ((FORK, 3), (FORK, 2), (CHAIN, 2), (CHAIN, 3), (FREE, 2), (FREE, 3)):
            for given in changed(round_certificate(task, registers)):
                within, many, _ = given
                wanted = oracle.flaw(task, given, round_edges) is None
                self.check(task, given, wanted)
                if wanted:
                    schedule = shortest_rounds(task, within)
                    self.assertTrue(schedule is None or many is not None and many <= len(schedule))
                    right += 1
        self.assertGreater(right, 50)

    def test_the_greatest_certificates(self):
        task = (((),) * 8, tuple(range(8)))
        every = tuple(configuration_of(number) for number in range(255))
        self.assertIs(is_right_rounds(task, (7, None, (every,) * 256)), True)
        self.assertIs(is_right_rounds(task, (8, None, (every,) * 256)), False)
        self.assertEqual(number_of(task[1]), 255)


class PlansAndSchedulesTest(unittest.TestCase):
    def test_the_shortest_plan_as_rounds_solves(self):
        for task in TASKS:
            for registers in range(1, 9):
                plan = shortest(task, registers)
                if plan is not None:
                    self.assertIs(solves_in_rounds(task, registers, [(step,) for step in plan]), True)


if __name__ == "__main__":
    unittest.main()
