"""[1] and [2] over the whole program: from a text to claims, and what is passed and returned."""

import copy
import unittest

from samples import ALL_RETURNED, CHAIN, EXAMPLE, FORK
from tidyback import (
    benches, certificates, code, effects, joining, judges, machines, planning, prices, programs, rounds, tasks)

PLAN = [0, 1, 0, 2, 3, 2, 0, 1, 0]
SMALL = (7, *EXAMPLE[1:])
CODE = code.compiled(SMALL, PLAN)
PRICES = [5, 1, 2, 9]
ZEROS = [0] * 8
NEGATED = (7, 1, (("-", "0", "x0"),), (0,))
CALLS = (
    (programs.read_program, ("mod 7\ninputs 1\ns0 = x0 + 1\nreturn s0\n",)),
    (programs.format_program, (EXAMPLE,)),
    (programs.evaluate, (SMALL, [5, 6])),
    (programs.task_of, (SMALL,)),
    (tasks.task, ([[], [0], [0, 1]], [1, 2])),
    (tasks.needed, (CHAIN,)),
    (tasks.is_possible, (CHAIN, (0,), 1)),
    (tasks.walk, (CHAIN, PLAN)),
    (tasks.look, (CHAIN, PLAN)),
    (planning.shortest_plan, (CHAIN, 3)),
    (planning.fewest_registers, (CHAIN,)),
    (planning.tradeoff, (CHAIN,)),
    (certificates.certificate, (CHAIN, 3)),
    (certificates.is_right, (CHAIN, (2, None, (((),),)))),
    (certificates.flaw, (CHAIN, (2, None, (((),),)))),
    (prices.price_of, (PRICES, PLAN)),
    (prices.cheapest_plan, (CHAIN, 3, PRICES)),
    (prices.price_certificate, (CHAIN, 3, PRICES)),
    (prices.is_right_price, (CHAIN, PRICES, (3, 1, (((), 0), ((0,), 1))))),
    (rounds.is_round, (FORK, (), (0, 1), 2)),
    (rounds.shortest_schedule, (FORK, 3)),
    (rounds.solves_in_rounds, (FORK, 3, [(0, 1), (2,), (0, 1)])),
    (rounds.round_certificate, (FORK, 3)),
    (rounds.is_right_rounds, (FORK, (3, 1, (((),),)))),
    (code.check_code, (SMALL, CODE)),
    (code.run, (SMALL, CODE, [5, 6], ZEROS)),
    (code.run, (SMALL, [], [5, 6], ZEROS)),
    (code.traced, (SMALL, CODE, [5, 6])),
    (code.inverted, (CODE,)),
    (code.flaw_of_code, (SMALL, CODE[:3])),
    (code.compiled, (SMALL, PLAN)),
    (code.decompiled, (SMALL, CODE)),
    (code.cancelled, (CODE,)),
    (effects.first_difference, (SMALL, CODE, [])),
    (effects.places_of, (SMALL, CODE)),
    (effects.first_untidy, (SMALL, CODE, ((3, 0),))),
    (joining.joined, (SMALL, NEGATED, (3,))),
    (joining.joined_plan, (SMALL, NEGATED, (3,), PLAN, [0])),
    (judges.flaw_of_plan, (CHAIN, 2, PLAN)),
    (judges.flaw_of_schedule, (FORK, 3, [(0, 1), (2,)])),
    (judges.answer, (SMALL, ("moves", 3))),
    (judges.answer, (SMALL, ("price", 3, PRICES))),
    (judges.answer, (SMALL, ("price", 1, PRICES))),
    (judges.answer, (SMALL, ("rounds", 3))),
    (judges.answer, (SMALL, ("code", CODE))),
    (judges.answer, (SMALL, ("code", CODE[:2]))),
    (judges.answer, (SMALL, ("same", CODE, CODE))),
    (judges.answer, (SMALL, ("same", CODE, []))),
    (judges.judge, (SMALL, ("code", CODE, PLAN))),
    (judges.judge_all, (SMALL, [("code", CODE, []), ("differ", CODE, [], [0, 0])])),
)


def lists_in(value):
    """Return all lists in a value, also those in other lists and tuples."""
    found = [value] if isinstance(value, list) else []
    if isinstance(value, (list, tuple)):
        for each in value:
            found += lists_in(each)
    return found


class WholeProgramTest(unittest.TestCase):
    def test_every_function_of_the_interface_is_called_here(self):
        called = {function.__name__ for function, _ in CALLS}
        listed = set(
            "read_program format_program evaluate task_of task needed is_possible walk look shortest_plan "
            "fewest_registers tradeoff certificate is_right flaw price_of cheapest_plan price_certificate "
            "is_right_price is_round shortest_schedule solves_in_rounds round_certificate is_right_rounds "
            "check_code run traced inverted flaw_of_code compiled decompiled cancelled first_difference "
            "places_of first_untidy joined joined_plan flaw_of_plan flaw_of_schedule answer judge "
            "judge_all".split())
        self.assertEqual(called, listed)

    def test_no_function_modifies_its_arguments(self):
        for function, passed in CALLS:
            before = copy.deepcopy(passed)
            function(*passed)
            self.assertEqual(passed, before, function)

    def test_every_list_that_is_returned_is_new(self):
        for function, passed in CALLS:
            first = function(*passed)
            wanted = copy.deepcopy(first)
            theirs = {id(each) for each in lists_in(passed)}
            for each in lists_in(first):
                self.assertNotIn(id(each), theirs, function)
                each.append("more")
                each.reverse()
            self.assertEqual(function(*passed), wanted, function)
            # No list stands twice in what is returned.
            second = lists_in(function(*passed))
            self.assertEqual(len({id(each) for each in second}), len(second), function)

    def test_what_was_returned_stays_when_the_arguments_are_modified(self):
        for function, passed in CALLS:
            passed = copy.deepcopy(passed)
            found = function(*passed)
            wanted = copy.deepcopy(found)
            for each in lists_in(passed):
                each.clear()
            self.assertEqual(found, wanted, function)

    def test_the_same_each_time(self):
        for function, passed in CALLS:
            self.assertEqual(function(*passed), function(*copy.deepcopy(passed)), function)

    def test_from_a_text_to_claims_that_hold(self):
        program = programs.read_program(
            "mod 5\ninputs 2\ns0 = x0 - x1\ns1 = s0 * s0\ns2 = s1 + 1\ns3 = s2 * s0\nreturn s1 s3\n")
        task = programs.task_of(program)
        least = planning.fewest_registers(task)
        for registers in range(least, 9):
            plan = planning.shortest_plan(task, registers)
            made = code.compiled(program, plan)
            code.check_code(program, made)
            places = effects.places_of(program, made)
            self.assertIsNone(effects.first_untidy(program, made, places))
            self.assertTrue(all(number < registers for _, number in places))
            machine = machines.Machine(program, made, [4, 2])
            machine.move_to(len(plan))
            self.assertEqual(
                [machine.registers[number] for _, number in places],
                [programs.evaluate(program, [4, 2])[output] for output, _ in places])
            bench = benches.Bench(task, registers)
            self.assertEqual(bench.replay([("toggle", move) for move in plan]), len(plan))
            self.assertEqual(bench.remaining(), 0)
            self.assertIs(judges.judge(program, ("code", made, plan)), True)
            self.assertIs(judges.judge(program, ("moves", registers, plan, certificates.certificate(task, registers))), True)
        self.assertEqual(judges.answer(program, ("moves", least - 1))[0], "no moves")

    def test_joined_programs_run_as_both(self):
        second = (10, 2, (("*", "x0", "x1"), ("-", "s0", "x0")), (1,))
        both = joining.joined(ALL_RETURNED, second, (1, 2))
        plan = joining.joined_plan(ALL_RETURNED, second, (1, 2), [0, 1, 2], [0, 1, 0])
        made = code.compiled(both, plan)
        self.assertIsNone(effects.first_untidy(both, made, effects.places_of(both, made)))
        self.assertIsNone(judges.flaw_of_plan(programs.task_of(both), 5, plan))


if __name__ == "__main__":
    unittest.main()
