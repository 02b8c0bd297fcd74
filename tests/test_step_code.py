"""[23] to [25]: step code, its flaws, and plans as code and back."""

import unittest
from itertools import permutations, product

import oracle
from oracle import all_tasks, shortest
from samples import ALL_RETURNED, EXAMPLE, LONGEST, SHORTEST
from tidyback.code import check_code, compiled, decompiled, flaw_of_code, run
from tidyback.errors import PlanError
from tidyback.planning import shortest_plan
from tidyback.programs import evaluate, task_of
from tidyback.tasks import look

PLAN = [0, 1, 0, 2, 3, 2, 0, 1, 0]
CODE = [
    (0, "+", "+", "x0", "x1"), (1, "+", "*", "r0", "r0"), (0, "-", "+", "x0", "x1"), (0, "+", "-", "r1", "3"),
    (2, "+", "*", "r0", "x0"), (0, "-", "-", "r1", "3"), (0, "+", "+", "x0", "x1"), (1, "-", "*", "r0", "r0"),
    (0, "-", "+", "x0", "x1")]
# Two steps that use none, and one that uses both, in one order and in the other one.
PAIR = (10, 1, (("+", "x0", "1"), ("+", "x0", "2"), ("-", "s0", "s1"), ("-", "s1", "s0")), (2, 3))
TWO = (5, 1, (("+", "x0", "1"), ("*", "s0", "s0")), (1,))


def moved_over(code, numbers):
    """Return the code in other registers: each one in that of the numbers at its own one."""
    names = {f"r{k}": f"r{number}" for k, number in enumerate(numbers)}
    return [
        (numbers[number], sign, operation, names.get(left, left), names.get(right, right))
        for number, sign, operation, left, right in code]


def program_of(task):
    """Return a program with this task; a step may use two others at most."""
    uses, targets = task
    steps = []
    for at, used in enumerate(uses):
        words = [f"s{k}" for k in used] + ["x0", "x0"]
        # The operation and the constant set those apart that use the same steps.
        right = words[1] if len(used) == 2 else str(at)
        steps.append(("+-*"[at % 3], words[0], right))
    return 11, 1, tuple(steps), targets


def fault(program, plan):
    """Return the pair (what, place) of the PlanError that `compiled` raises, or None."""
    try:
        compiled(program, plan)
    except PlanError as error:
        return error.what, error.place
    return None


class FlawTest(unittest.TestCase):
    def check(self, program, code, wanted):
        """Check the flaw of code, and that the oracle finds the same one."""
        check_code(program, code)
        self.assertEqual(oracle.flaw_of_code(program, code), wanted)
        self.assertEqual(flaw_of_code(program, code), wanted)
        self.assertEqual(decompiled(program, code) is None, wanted is not None)

    def test_step_code(self):
        self.check(EXAMPLE, CODE, None)
        self.check(SHORTEST, [(7, "+", "-", "0", "1")], None)
        self.check(ALL_RETURNED, [
            (3, "+", "+", "9", "x0"), (5, "+", "+", "x0", "9"), (0, "+", "-", "r3", "r5")], None)

    def test_step_code_in_any_registers(self):
        for numbers in permutations(range(8), 3):
            self.check(EXAMPLE, moved_over(CODE, numbers), None)

    def test_a_step_in_another_register_each_time(self):
        code = moved_over(CODE[:3], (4, 1, 2)) + moved_over(CODE[3:6], (5, 1, 2)) + moved_over(CODE[6:], (7, 1, 2))
        self.check(EXAMPLE, code, None)

    def test_the_register_holds_a_step(self):
        self.check(EXAMPLE, [CODE[0], CODE[0]], (1, "register holds a step"))
        self.check(EXAMPLE, [CODE[0], CODE[1], (1, "+", "+", "x0", "x1")], (2, "register holds a step"))

    def test_the_register_holds_no_step(self):
        self.check(EXAMPLE, [(0, "-", "+", "x0", "x1")], (0, "register holds no step"))
        self.check(EXAMPLE, [CODE[0], (1, "-", "+", "x0", "x1")], (1, "register holds no step"))
        self.check(EXAMPLE, [CODE[0], CODE[2], CODE[2]], (2, "register holds no step"))

    def test_a_source_holds_no_step(self):
        self.check(EXAMPLE, [(1, "+", "*", "r0", "r0")], (0, "source holds no step"))
        self.check(EXAMPLE, [CODE[0], (1, "+", "*", "r0", "r2")], (1, "source holds no step"))
        self.check(EXAMPLE, [CODE[0], (1, "+", "*", "r2", "r0")], (1, "source holds no step"))
        self.check(EXAMPLE, [*CODE[:3], (1, "-", "*", "r0", "r0")], (3, "source holds no step"))

    def test_no_such_step(self):
        self.check(EXAMPLE, [(0, "+", "+", "x1", "x0")], (0, "no such step"))
        self.check(EXAMPLE, [(0, "+", "-", "x0", "x1")], (0, "no such step"))
        self.check(EXAMPLE, [(0, "+", "+", "x0", "3")], (0, "no such step"))
        self.check(EXAMPLE, [CODE[0], (1, "+", "-", "r0", "3")], (1, "no such step"))
        self.check(EXAMPLE, [*CODE[:2], (2, "+", "-", "3", "r1")], (2, "no such step"))
        self.check(EXAMPLE, [*CODE[:2], (0, "-", "+", "x1", "x0")], (2, "no such step"))

    def test_the_number_of_a_register_is_not_that_of_a_step(self):
        code = [(1, "+", "+", "x0", "x1"), (0, "+", "*", "r1", "r1")]
        self.check((97, 2, EXAMPLE[2], (0, 1)), code, None)
        self.check(PAIR, [(1, "+", "+", "x0", "1"), (0, "+", "+", "x0", "2"), (2, "+", "-", "r1", "r0"),
                          (3, "+", "-", "r0", "r1")], (4, "other outputs"))

    def test_left_and_right_stand_in_their_order(self):
        code = [(0, "+", "+", "x0", "1"), (1, "+", "+", "x0", "2"), (2, "+", "-", "r0", "r1"), (3, "+", "-", "r1", "r0")]
        self.assertEqual(decompiled((*PAIR[:3], (0, 1, 2, 3)), code), [0, 1, 2, 3])
        code[2:] = [(2, "+", "-", "r1", "r0"), (3, "+", "-", "r0", "r1")]
        self.assertEqual(decompiled((*PAIR[:3], (0, 1, 2, 3)), code), [0, 1, 3, 2])

    def test_the_step_is_held(self):
        self.check(EXAMPLE, [CODE[0], (1, "+", "+", "x0", "x1")], (1, "step is held"))
        self.check(EXAMPLE, [*CODE[:2], (7, "+", "*", "r0", "r0")], (2, "step is held"))

    def test_the_register_holds_another_step(self):
        self.check(EXAMPLE, [*CODE[:2], (1, "-", "+", "x0", "x1")], (2, "register holds another step"))
        self.check(EXAMPLE, [*CODE[:2], CODE[2], CODE[3], (1, "-", "+", "x0", "x1")],
                   (4, "register holds another step"))
        self.check(PAIR, [(0, "+", "+", "x0", "1"), (1, "+", "+", "x0", "2"), (0, "-", "+", "x0", "2")],
                   (2, "register holds another step"))

    def test_other_outputs_stand_at_the_number_of_the_instructions(self):
        self.check(EXAMPLE, [], (0, "other outputs"))
        for many in range(9):
            self.check(EXAMPLE, CODE[:many], (many, "other outputs"))
        self.check(EXAMPLE, CODE + [CODE[0]], (10, "other outputs"))
        self.check((97, 2, EXAMPLE[2], (0,)), CODE, (9, "other outputs"))
        self.check((97, 2, EXAMPLE[2], (0, 3)), CODE, (9, "other outputs"))
        self.check((97, 2, EXAMPLE[2], (0, 3)), CODE[:-1], None)
        self.check((97, 2, EXAMPLE[2], (0, 1, 3)), CODE[:-2], None)

    def test_the_first_of_several_flaws_counts(self):
        self.check(EXAMPLE, [CODE[0], (0, "+", "*", "r1", "r1")], (1, "register holds a step"))
        self.check(EXAMPLE, [CODE[0], (0, "+", "-", "x0", "x0")], (1, "register holds a step"))
        self.check(EXAMPLE, [(3, "-", "*", "r1", "r1")], (0, "register holds no step"))
        self.check(EXAMPLE, [(3, "-", "-", "x1", "x1")], (0, "register holds no step"))
        self.check(EXAMPLE, [(3, "+", "-", "r1", "x1")], (0, "source holds no step"))
        self.check(EXAMPLE, [CODE[0], (0, "-", "-", "r1", "x1")], (1, "source holds no step"))
        self.check(EXAMPLE, [CODE[0], (0, "-", "-", "x1", "x1")], (1, "no such step"))

    def test_the_first_instruction_with_a_flaw_counts(self):
        wrong = [(3, "-", "*", "x0", "x0"), (5, "+", "*", "r7", "r7"), (0, "+", "-", "x0", "x0"), (1, "+", "+", "x0", "x1")]
        whats = ["register holds no step", "source holds no step", "register holds a step", "step is held"]
        for at in range(4):
            self.check(EXAMPLE, [CODE[0], *wrong[at:], *wrong[:at]], (1, whats[at]))

    def test_all_code_of_few_instructions(self):
        instructions = [
            (number, sign, *meaning) for number in (0, 1) for sign in "+-" for meaning in (
                ("+", "x0", "1"), ("*", f"r{1 - number}", f"r{1 - number}"), ("-", "x0", "1"))]
        found = {}
        for many in range(5):
            for code in product(instructions, repeat=many):
                wanted = oracle.flaw_of_code(TWO, code)
                self.assertEqual(flaw_of_code(TWO, list(code)), wanted)
                if wanted is None:
                    found.setdefault(many, []).append(decompiled(TWO, list(code)))
        # Either one of the two registers may hold the first step.
        self.assertEqual(found, {3: [[0, 1, 0]] * 2})

    def test_code_is_there_if_a_plan_is(self):
        program = (5, 1, (("+", "x0", "1"), ("+", "x0", "2")), (1,))
        instructions = [
            (number, sign, "+", "x0", word) for number in (0, 1) for sign in "+-" for word in ("1", "2")]
        for many in range(5):
            plans = [list(plan) for plan in product((0, 1), repeat=many)]
            for registers in (1, 2):
                solving = [
                    plan for plan in plans
                    if look(task_of(program), plan)[1:] in [(peak, True) for peak in range(registers + 1)]]
                codes = [
                    list(code) for code in product(instructions, repeat=many)
                    if all(each[0] < registers for each in code)]
                step_codes = [code for code in codes if flaw_of_code(program, code) is None]
                self.assertEqual(sorted({tuple(decompiled(program, code)) for code in step_codes}),
                                 sorted(map(tuple, solving)))

    def test_the_code_stays_as_it_is(self):
        code = list(CODE)
        flaw_of_code(EXAMPLE, code)
        self.assertEqual(code, CODE)


class CompiledTest(unittest.TestCase):
    def test_one_instruction_for_each_move(self):
        self.assertEqual(compiled(EXAMPLE, PLAN), CODE)
        self.assertEqual(compiled(SHORTEST, [0]), [(0, "+", "-", "0", "1")])
        self.assertEqual(compiled(SHORTEST, [0, 0, 0]), [
            (0, "+", "-", "0", "1"), (0, "-", "-", "0", "1"), (0, "+", "-", "0", "1")])

    def test_the_least_free_register_is_filled(self):
        program = (10, 1, tuple(("+", "x0", str(k)) for k in range(5)), (0, 1, 2, 4))
        found = compiled(program, [3, 2, 1, 2, 0, 3, 4, 2])
        self.assertEqual([each[:2] for each in found], [
            (0, "+"), (1, "+"), (2, "+"), (1, "-"), (1, "+"), (0, "-"), (0, "+"), (3, "+")])

    def test_eight_registers(self):
        program = (10, 1, tuple(("+", "x0", str(k)) for k in range(8)), tuple(range(8)))
        self.assertEqual([each[0] for each in compiled(program, list(range(8)))], list(range(8)))
        self.assertEqual([each[4] for each in compiled(program, list(range(7, -1, -1)))], list("76543210"))

    def test_operands_become_sources(self):
        program = (97, 3, (("+", "x2", "96"), ("*", "s0", "x1"), ("-", "s1", "s0"), ("-", "0", "s2")), (0, 1, 2, 3))
        self.assertEqual(compiled(program, [0, 1, 2, 3]), [
            (0, "+", "+", "x2", "96"), (1, "+", "*", "r0", "x1"), (2, "+", "-", "r1", "r0"), (3, "+", "-", "0", "r2")])
        self.assertEqual(compiled(program, [0, 1, 0, 0, 0, 0, 2, 3])[-2:], [
            (2, "+", "-", "r1", "r0"), (3, "+", "-", "0", "r2")])

    def test_a_move_that_is_not_possible(self):
        self.assertEqual(fault(EXAMPLE, [1]), ("not possible", 0))
        self.assertEqual(fault(EXAMPLE, [0, 1, 0, 1]), ("not possible", 3))
        self.assertEqual(fault(EXAMPLE, [0, 2, 3]), ("not possible", 1))
        self.assertEqual(fault(EXAMPLE, PLAN + [2]), ("not possible", 9))

    def test_a_plan_that_does_not_solve(self):
        self.assertEqual(fault(EXAMPLE, []), ("other targets", -1))
        self.assertEqual(fault(EXAMPLE, PLAN[:-1]), ("other targets", -1))
        self.assertEqual(fault(EXAMPLE, PLAN + [0]), ("other targets", -1))
        self.assertEqual(fault(EXAMPLE, [0]), ("other targets", -1))
        self.assertIsNone(fault(EXAMPLE, PLAN + [0, 0]))

    def test_the_code_gives_the_values_of_the_outputs(self):
        for inputs in ([0, 0], [5, 7], [96, 96]):
            found = run(EXAMPLE, compiled(EXAMPLE, PLAN), inputs, [0] * 8)
            self.assertEqual(found, [0, 0, evaluate(EXAMPLE, inputs)[3], 0, 0, 0, 0, 0])

    def test_the_plan_stays_as_it_is_and_the_list_is_new(self):
        plan = list(PLAN)
        first = compiled(EXAMPLE, plan)
        self.assertEqual([type(first), type(first[0])], [list, tuple])
        first.clear()
        self.assertEqual(compiled(EXAMPLE, plan), CODE)
        self.assertEqual(plan, PLAN)

    def test_plans_beyond_the_limit(self):
        found = compiled(SHORTEST, [0] * 301)
        self.assertEqual(len(found), 301)
        self.assertEqual(decompiled(SHORTEST, found), [0] * 301)


class DecompiledTest(unittest.TestCase):
    def test_the_plan_of_the_compiled_code_is_the_plan(self):
        self.assertEqual(decompiled(EXAMPLE, CODE), PLAN)
        for program in (EXAMPLE, SHORTEST, LONGEST, ALL_RETURNED, PAIR, TWO):
            for registers in range(1, 9):
                plan = shortest_plan(task_of(program), registers)
                if plan is not None:
                    code = compiled(program, plan)
                    check_code(program, code)
                    self.assertEqual(decompiled(program, code), plan)
                    self.assertTrue(all(each[0] < registers for each in code))

    def test_all_tasks_of_four_steps(self):
        for task in all_tasks(4)[::7]:
            if all(len(used) <= 2 for used in task[0]):
                program = program_of(task)
                self.assertEqual(task_of(program), task)
                plan = shortest(task, 4)
                code = compiled(program, plan)
                self.assertEqual(decompiled(program, code), plan)
                self.assertIsNone(oracle.flaw_of_code(program, code))

    def test_step_code_in_any_registers(self):
        for numbers in permutations(range(8), 3):
            self.assertEqual(decompiled(EXAMPLE, moved_over(CODE, numbers)), PLAN)

    def test_other_code(self):
        self.assertIsNone(decompiled(EXAMPLE, []))
        self.assertIsNone(decompiled(EXAMPLE, CODE[:8]))
        self.assertIsNone(decompiled(EXAMPLE, CODE[1:]))
        self.assertIsNone(decompiled(EXAMPLE, CODE + CODE))
        self.assertIsNone(decompiled(EXAMPLE, [*CODE, (0, "+", "-", "x0", "x0")]))

    def test_the_code_stays_as_it_is_and_the_list_is_new(self):
        code = list(CODE)
        first = decompiled(EXAMPLE, code)
        self.assertIs(type(first), list)
        first.clear()
        self.assertEqual(decompiled(EXAMPLE, code), PLAN)
        self.assertEqual(code, CODE)


if __name__ == "__main__":
    unittest.main()
