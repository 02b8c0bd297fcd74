"""[35]: the flaws of plans and schedules."""

import unittest
from itertools import product

from oracle import configuration_of, edges, number_of, round_edges
from samples import CHAIN, FORK, FREE, TASKS, WIDE
from tidyback.judges import flaw_of_plan, flaw_of_schedule
from tidyback.planning import shortest_plan
from tidyback.rounds import shortest_schedule, solves_in_rounds


class FlawOfPlanTest(unittest.TestCase):
    def check(self, task, registers, plan, wanted):
        passed = list(plan)
        self.assertEqual(flaw_of_plan(task, registers, passed), wanted)
        self.assertEqual(passed, plan)

    def test_plans_that_solve(self):
        self.check(CHAIN, 3, [0, 1, 0, 2, 3, 2, 0, 1, 0], None)
        self.check(CHAIN, 4, [0, 1, 2, 3, 2, 1, 0], None)
        self.check(FREE, 3, [2, 0, 1], None)
        self.check(FREE, 3, [2, 2, 2, 0, 1], None)

    def test_no_such_step(self):
        for step in (-1, -4, 4, 5, 1000):
            self.check(CHAIN, 3, [step], (0, "no such step"))
            self.check(CHAIN, 3, [0, 1, step, 0], (2, "no such step"))

    def test_not_possible(self):
        self.check(CHAIN, 3, [1], (0, "not possible"))
        self.check(CHAIN, 3, [0, 1, 0, 1], (3, "not possible"))
        self.check(FORK, 3, [0, 2, 1], (1, "not possible"))
        self.check(FORK, 3, [0, 1, 2, 1, 2], (4, "not possible"))

    def test_too_many_registers(self):
        self.check(CHAIN, 2, [0, 1, 0, 2, 0], (4, "too many registers"))
        self.check(CHAIN, 3, [0, 1, 2, 3, 2, 1, 0], (3, "too many registers"))
        self.check(FREE, 2, [0, 1, 2], (2, "too many registers"))
        self.check(FREE, 2, [0, 1, 0, 2], (4, "other targets"))

    def test_other_targets(self):
        self.check(CHAIN, 3, [], (0, "other targets"))
        self.check(CHAIN, 3, [0, 1, 0], (3, "other targets"))
        self.check(CHAIN, 4, [0, 1, 2, 3], (4, "other targets"))
        self.check(FREE, 3, [0, 1, 2, 0], (4, "other targets"))

    def test_the_first_of_several_reasons_counts(self):
        self.check(FORK, 1, [0, 3], (1, "no such step"))
        self.check(FORK, 1, [0, 2], (1, "not possible"))
        self.check(FORK, 1, [0, 1], (1, "too many registers"))
        self.check(FORK, 1, [0], (1, "other targets"))

    def test_the_first_move_that_is_wrong_counts(self):
        self.check(FORK, 1, [0, 1, 2, 3], (1, "too many registers"))
        self.check(FORK, 1, [0, 2, 3, 1], (1, "not possible"))
        self.check(FORK, 1, [0, 3, 2, 1], (1, "no such step"))

    def test_any_plans_by_their_words(self):
        for task, registers in ((FORK, 2), (FORK, 3), ((((), (0,)), (1,)), 2), ((((), ()), (1,)), 1)):
            graph = edges(task, 8)
            for many in range(6):
                for plan in product(range(-1, len(task[0]) + 1), repeat=many):
                    wanted = self.by_the_words(graph, task, registers, plan)
                    self.assertEqual(flaw_of_plan(task, registers, list(plan)), wanted)

    def by_the_words(self, graph, task, registers, plan):
        number = 0
        for at, move in enumerate(plan):
            if move not in range(len(task[0])):
                return at, "no such step"
            if move not in graph[number]:
                return at, "not possible"
            number = graph[number][move]
            if number.bit_count() > registers:
                return at, "too many registers"
        return None if configuration_of(number) == task[1] else (len(plan), "other targets")

    def test_shortest_plans_have_none(self):
        for task in TASKS:
            for registers in range(1, 9):
                plan = shortest_plan(task, registers)
                if plan is not None:
                    self.check(task, registers, plan, None)
                    self.check(task, registers, plan[:-1], (len(plan) - 1, "other targets"))

    def test_plans_beyond_the_limit(self):
        self.check((((),), (0,)), 1, [0] * 301, None)
        self.check((((),), (0,)), 1, [0] * 300, (300, "other targets"))


class FlawOfScheduleTest(unittest.TestCase):
    def check(self, task, registers, schedule, wanted):
        passed = list(schedule)
        self.assertEqual(flaw_of_schedule(task, registers, passed), wanted)
        self.assertEqual(passed, schedule)
        self.assertIs(solves_in_rounds(task, registers, schedule), wanted is None)

    def test_schedules_that_solve(self):
        self.check(FORK, 3, [(0, 1), (2,), (0, 1)], None)
        self.check(CHAIN, 4, [(0,), (1,), (0, 2), (0, 3), (2,), (1,), (0,)], None)
        self.check(FREE, 3, [(0, 1, 2)], None)

    def test_empty_round(self):
        self.check(FREE, 3, [()], (0, "empty round"))
        self.check(FREE, 3, [(0, 1), (), (2,)], (1, "empty round"))
        self.check(FREE, 3, [(0, 1, 2), ()], (1, "empty round"))

    def test_not_ascending(self):
        for steps in ((1, 0), (0, 0), (0, 2, 1), (2, 1), (1, 1, 1)):
            self.check(FREE, 3, [steps], (0, "not ascending"))
            self.check(FREE, 3, [(0,), steps], (1, "not ascending"))

    def test_no_such_step(self):
        for steps in ((-1,), (3,), (-1, 0), (0, 3), (-5, 99), (0, 1, 2, 3)):
            self.check(FREE, 3, [steps], (0, "no such step"))
            self.check(FREE, 3, [(0,), steps], (1, "no such step"))

    def test_not_possible(self):
        self.check(FORK, 3, [(2,)], (0, "not possible"))
        self.check(FORK, 3, [(0,), (1, 2)], (1, "not possible"))
        self.check(FORK, 3, [(0, 1), (0, 2)], (1, "not possible"))
        self.check(FORK, 3, [(0, 1), (2,), (1, 2)], (2, "not possible"))
        self.check(CHAIN, 3, [(0,), (0, 1)], (1, "not possible"))

    def test_too_many_registers(self):
        self.check(FREE, 2, [(0, 1, 2)], (0, "too many registers"))
        self.check(FREE, 2, [(0, 1), (0, 2)], (1, "too many registers"))
        self.check(FREE, 1, [(0,), (0, 1)], (1, "too many registers"))
        self.check(FORK, 2, [(0, 1), (2,), (0, 1)], (1, "too many registers"))
        self.check(FREE, 2, [(0, 1), (0, 1)], (2, "other targets"))

    def test_other_targets(self):
        self.check(FORK, 3, [], (0, "other targets"))
        self.check(FORK, 3, [(0, 1), (2,)], (2, "other targets"))
        self.check(FORK, 3, [(0, 1), (2,), (0,)], (3, "other targets"))
        self.check(FREE, 3, [(0, 1, 2), (0, 1, 2)], (2, "other targets"))

    def test_the_first_of_several_reasons_counts(self):
        self.check(FORK, 1, [(3, 2)], (0, "not ascending"))
        self.check(FORK, 1, [(0,), (2, 1, 0)], (1, "not ascending"))
        self.check(FORK, 1, [(0,), (0, 2, 3)], (1, "no such step"))
        self.check(FORK, 1, [(0,), (0, 1, 2)], (1, "not possible"))
        self.check(FORK, 1, [(0,), (0, 1)], (1, "too many registers"))
        self.check(FORK, 1, [(0,), (0,)], (2, "other targets"))

    def test_the_first_round_that_is_wrong_counts(self):
        wrong = [((), "empty round"), ((1, 0), "not ascending"), ((0, 3), "no such step"), ((0, 2), "not possible"),
                 ((0, 1), "too many registers")]
        for at in range(5):
            rounds = [steps for steps, _ in wrong[at:] + wrong[:at]]
            self.check(FORK, 1, [(0,), *rounds], (1, wrong[at][1]))

    def test_any_schedules_by_their_words(self):
        some = [(), (0,), (1,), (2,), (0, 1), (0, 2), (1, 2), (0, 1, 2), (1, 0), (0, 3), (-1,)]
        graph = round_edges(FORK, 8)
        for registers in (2, 3):
            within = round_edges(FORK, registers)
            for many in range(5):
                for schedule in product(some, repeat=many):
                    wanted = self.by_the_words(graph, within, schedule)
                    self.assertEqual(flaw_of_schedule(FORK, registers, list(schedule)), wanted)

    def by_the_words(self, graph, within, schedule):
        number = 0
        for at, steps in enumerate(schedule):
            if steps == ():
                return at, "empty round"
            if list(steps) != sorted(set(steps)):
                return at, "not ascending"
            if not set(steps) <= {0, 1, 2}:
                return at, "no such step"
            if steps not in graph[number]:
                return at, "not possible"
            if steps not in within[number]:
                return at, "too many registers"
            number = within[number][steps]
        return None if number == number_of((2,)) else (len(schedule), "other targets")

    def test_shortest_schedules_have_none(self):
        for task in (*TASKS, WIDE):
            for registers in range(1, 9):
                schedule = shortest_schedule(task, registers)
                if schedule is not None:
                    self.check(task, registers, schedule, None)


if __name__ == "__main__":
    unittest.main()
