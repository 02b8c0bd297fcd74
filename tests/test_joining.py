"""[29] and [30]: joined programs, and joined plans."""

import copy
import unittest
from itertools import product

from samples import ALL_RETURNED, EXAMPLE, LONGEST
from tidyback.errors import JoinError, PlanError
from tidyback.joining import joined, joined_plan
from tidyback.planning import shortest_plan
from tidyback.programs import evaluate, format_program, read_program, task_of
from tidyback.tasks import look

SQUARE = (7, 1, (("*", "x0", "x0"),), (0,))
TRIPLE = (7, 2, (("+", "x0", "x1"), ("*", "s0", "3")), (1,))
# Outputs that are not the last steps, and a step that is no output.
MIXED = (7, 3, (("+", "x0", "x1"), ("-", "s0", "x2"), ("*", "s0", "s1"), ("+", "s2", "6")), (1, 3))


def fault(function, *passed, **named):
    """Return the kind, what and place of the error that a call raises, or None."""
    try:
        function(*passed, **named)
    except (JoinError, PlanError) as error:
        return type(error), error.what, error.place
    return None


def join_fault(first, second, links, keep=False):
    """Return the pair (what, place) of the JoinError that `joined` raises, or None."""
    found = fault(joined, first, second, links, keep=keep)
    return None if found is None else found[1:]


def program(inputs, steps, outputs, modulus=7):
    """Return a program with as many different steps, each of which uses the first input."""
    return modulus, inputs, tuple(("+", "x0", str(k)) for k in range(steps)), outputs


class JoinedTest(unittest.TestCase):
    def test_the_example(self):
        self.assertEqual(
            joined(SQUARE, TRIPLE, (0, None)),
            (7, 2, (("*", "x0", "x0"), ("+", "s0", "x1"), ("*", "s1", "3")), (2,)))

    def test_no_links(self):
        self.assertEqual(
            joined(SQUARE, TRIPLE, (None, None)),
            (7, 3, (("*", "x0", "x0"), ("+", "x1", "x2"), ("*", "s1", "3")), (2,)))
        self.assertEqual(
            joined(TRIPLE, SQUARE, (None,)),
            (7, 3, (("+", "x0", "x1"), ("*", "s0", "3"), ("*", "x2", "x2")), (2,)))

    def test_links_at_several_places(self):
        steps = (("+", "x0", "x1"), ("-", "s0", "x2"), ("*", "s0", "s1"), ("+", "s2", "6"))
        self.assertEqual(
            joined(MIXED, TRIPLE, (3, 1)), (7, 3, (*steps, ("+", "s3", "s1"), ("*", "s4", "3")), (5,)))
        self.assertEqual(
            joined(MIXED, TRIPLE, (None, 3)), (7, 4, (*steps, ("+", "x3", "s3"), ("*", "s4", "3")), (5,)))
        self.assertEqual(
            joined(MIXED, TRIPLE, (1, 1)), (7, 3, (*steps, ("+", "s1", "s1"), ("*", "s4", "3")), (5,)))
        self.assertEqual(
            joined(SQUARE, MIXED, (None, 0, None)),
            (7, 3, (("*", "x0", "x0"), ("+", "x1", "s0"), ("-", "s1", "x2"), ("*", "s1", "s2"), ("+", "s3", "6")),
             (2, 4)))

    def test_constants_stay(self):
        second = (7, 1, (("+", "0", "1"), ("-", "x0", "2"), ("*", "3", "s1")), (0, 2))
        self.assertEqual(
            joined(SQUARE, second, (0,)),
            (7, 1, (("*", "x0", "x0"), ("+", "0", "1"), ("-", "s0", "2"), ("*", "3", "s2")), (1, 3)))

    def test_a_step_that_is_equal_to_one_of_the_first_program(self):
        self.assertEqual(
            joined(TRIPLE, (7, 1, (("*", "x0", "3"),), (0,)), (1,)),
            (7, 2, (("+", "x0", "x1"), ("*", "s0", "3"), ("*", "s1", "3")), (2,)))
        first = (7, 1, (("+", "x0", "1"), ("*", "s0", "3")), (0, 1))
        second = (7, 1, (("*", "x0", "3"), ("-", "s0", "x0")), (1,))
        self.assertEqual(
            joined(first, second, (0,)),
            (7, 1, (("+", "x0", "1"), ("*", "s0", "3"), ("-", "s1", "s0")), (2,)))

    def test_steps_that_become_equal_to_one_another(self):
        second = (7, 2, (("+", "x0", "1"), ("+", "x1", "1"), ("*", "s0", "s1"), ("*", "s1", "s0")), (0, 1, 2, 3))
        self.assertEqual(
            joined(SQUARE, second, (0, 0)),
            (7, 1, (("*", "x0", "x0"), ("+", "s0", "1"), ("*", "s1", "s1")), (1, 2)))
        self.assertEqual(
            joined(SQUARE, second, (0, None)),
            (7, 2, (("*", "x0", "x0"), ("+", "s0", "1"), ("+", "x1", "1"), ("*", "s1", "s2"), ("*", "s2", "s1")),
             (1, 2, 3, 4)))

    def test_constants_that_become_equal_to_a_step_of_the_first_program(self):
        first = (7, 1, (("+", "2", "3"), ("*", "s0", "x0")), (1,))
        second = (7, 1, (("*", "x0", "x0"), ("+", "2", "3")), (0, 1))
        self.assertEqual(
            joined(first, second, (1,)),
            (7, 1, (("+", "2", "3"), ("*", "s0", "x0"), ("*", "s1", "s1")), (0, 2)))

    def test_steps_of_the_same_words_that_mean_other_ones(self):
        self.assertEqual(
            joined(SQUARE, SQUARE, (0,)), (7, 1, (("*", "x0", "x0"), ("*", "s0", "s0")), (1,)))
        self.assertEqual(
            joined(SQUARE, SQUARE, (None,)), (7, 2, (("*", "x0", "x0"), ("*", "x1", "x1")), (1,)))

    def test_keep(self):
        self.assertEqual(joined(SQUARE, TRIPLE, (0, None), keep=True)[3], (0, 2))
        self.assertEqual(joined(MIXED, TRIPLE, (3, 1), keep=True)[3], (1, 3, 5))
        self.assertEqual(joined(MIXED, TRIPLE, (3, 1), keep=False)[3], (5,))
        self.assertEqual(joined(SQUARE, TRIPLE, (0, None), keep=True)[:3], joined(SQUARE, TRIPLE, (0, None))[:3])

    def test_outputs_stand_once_and_ascending(self):
        first = (7, 1, (("+", "x0", "1"), ("*", "s0", "3")), (0, 1))
        second = (7, 1, (("-", "x0", "2"), ("*", "x0", "3")), (0, 1))
        self.assertEqual(joined(first, second, (0,))[3], (1, 2))
        self.assertEqual(joined(first, second, (0,), keep=True)[3], (0, 1, 2))

    def test_keep_is_passed_by_keyword_only(self):
        with self.assertRaises(TypeError):
            joined(SQUARE, TRIPLE, (0, None), True)

    def test_other_modulus(self):
        self.assertEqual(join_fault(SQUARE, (8, *TRIPLE[1:]), (0, None)), ("other modulus", -1))
        self.assertIsNone(join_fault((8, *SQUARE[1:]), (8, *TRIPLE[1:]), (0, None)))

    def test_wrong_link(self):
        self.assertEqual(join_fault(SQUARE, TRIPLE, (1, None)), ("wrong link", 0))
        self.assertEqual(join_fault(SQUARE, TRIPLE, (0, 1)), ("wrong link", 1))
        self.assertEqual(join_fault(SQUARE, TRIPLE, (None, -1)), ("wrong link", 1))
        self.assertEqual(join_fault(SQUARE, TRIPLE, (None, 99)), ("wrong link", 1))
        self.assertEqual(join_fault(MIXED, TRIPLE, (0, 2)), ("wrong link", 0))
        self.assertEqual(join_fault(MIXED, TRIPLE, (1, 2)), ("wrong link", 1))
        self.assertIsNone(join_fault(MIXED, TRIPLE, (1, 3)))

    def test_the_number_of_the_inputs(self):
        for before in range(1, 7):
            for behind in range(1, 7):
                first, second = program(before, 1, (0,)), (7, behind, (("*", "x0", "x0"),), (0,))
                none = (None,) * behind
                wanted = ("too many inputs", -1) if before + behind > 6 else None
                self.assertEqual(join_fault(first, second, none), wanted)
                wanted = ("too many inputs", -1) if before + behind - 1 > 6 else None
                self.assertEqual(join_fault(first, second, (0, *none[1:])), wanted)
        self.assertEqual(joined(program(6, 1, (0,)), SQUARE, (0,))[1], 6)
        self.assertEqual(joined(program(5, 1, (0,)), SQUARE, (None,))[1], 6)

    def test_the_number_of_the_steps(self):
        for before in range(1, 9):
            for behind in range(1, 9):
                first, second = program(1, before, (0,), 11), program(1, behind, (0,), 11)
                wanted = ("too many steps", -1) if before + behind > 8 else None
                self.assertEqual(join_fault(first, second, (0,)), wanted)
                self.assertEqual(join_fault(first, second, (None,)), wanted)

    def test_steps_that_become_equal_are_counted_once(self):
        first = program(1, 7, (0,), 11)
        second = (11, 2, (("*", "x0", "2"), ("*", "x1", "2"), ("+", "5", "5")), (0,))
        self.assertEqual(len(joined(first, (*second[:2], second[2][:2], (0,)), (0, 0))[2]), 8)
        self.assertEqual(join_fault(first, second, (0, 0)), ("too many steps", -1))
        self.assertEqual(join_fault(first, (*second[:2], second[2][:2], (0,)), (0, None)), ("too many steps", -1))

    def test_the_first_of_several_faults_counts(self):
        first, second = program(6, 8, (0,), 11), program(2, 8, (0,), 11)
        self.assertEqual(join_fault(first, (7, *second[1:]), (5, 6)), ("other modulus", -1))
        self.assertEqual(join_fault(first, second, (5, 6)), ("wrong link", 0))
        self.assertEqual(join_fault(first, second, (None, 6)), ("wrong link", 1))
        self.assertEqual(join_fault(first, second, (None, None)), ("too many inputs", -1))
        self.assertEqual(join_fault(first, second, (0, 0)), ("too many steps", -1))

    def test_values(self):
        """[30]: the values of the joined program are those of both."""
        for first, second, links in (
                (SQUARE, TRIPLE, (0, None)), (SQUARE, TRIPLE, (None, 0)), (SQUARE, TRIPLE, (0, 0)),
                (MIXED, TRIPLE, (3, None)), (MIXED, SQUARE, (1,)), (SQUARE, MIXED, (None, 0, 0)),
                (TRIPLE, TRIPLE, (None, 1)), (SQUARE, SQUARE, (0,))):
            for keep in (False, True):
                both = joined(first, second, links, keep=keep)
                for inputs in list(product(range(7), repeat=both[1]))[::5]:
                    values = evaluate(both, list(inputs))
                    before = evaluate(first, list(inputs[:first[1]]))
                    free = iter(inputs[first[1]:])
                    behind = evaluate(second, [next(free) if k is None else before[k] for k in links])
                    self.assertEqual(values[:len(first[2])], before)
                    self.assertEqual(values[len(first[2]):], behind)
                    self.assertEqual(
                        [values[k] for k in both[3]],
                        ([before[k] for k in first[3]] if keep else []) + [behind[k] for k in second[3]])

    def test_what_is_joined_is_a_program(self):
        for first, second, links in ((SQUARE, TRIPLE, (0, None)), (MIXED, TRIPLE, (3, 1)), (SQUARE, MIXED, (None, 0, 0))):
            for keep in (False, True):
                both = joined(first, second, links, keep=keep)
                self.assertEqual(read_program(format_program(both)), both)

    def test_programs_of_the_samples(self):
        mod97 = (97, 1, (("*", "x0", "96"),), (0,))
        self.assertEqual(joined(EXAMPLE, mod97, (3,)), (
            97, 2, (*EXAMPLE[2], ("*", "s3", "96")), (4,)))
        self.assertEqual(join_fault(LONGEST, EXAMPLE, (None, None)), ("other modulus", -1))
        self.assertEqual(join_fault(ALL_RETURNED, ALL_RETURNED, (2,)), None)


class JoinedPlanTest(unittest.TestCase):
    def test_the_example(self):
        self.assertEqual(joined_plan(SQUARE, TRIPLE, (0, None), [0], [0, 1, 0]), [0, 1, 2, 1, 0])

    def test_keep(self):
        self.assertEqual(joined_plan(SQUARE, TRIPLE, (0, None), [0], [0, 1, 0], keep=True), [0, 1, 2, 1])
        with self.assertRaises(TypeError):
            joined_plan(SQUARE, TRIPLE, (0, None), [0], [0, 1, 0], True)

    def test_the_first_plan_is_run_back(self):
        plan = [0, 1, 2, 3, 2, 0]
        self.assertEqual(
            joined_plan(MIXED, TRIPLE, (3, 1), plan, [0, 1, 0]), [0, 1, 2, 3, 2, 0, 4, 5, 4, 0, 2, 3, 2, 1, 0])
        self.assertEqual(joined_plan(MIXED, TRIPLE, (3, 1), plan, [0, 1, 0], keep=True), [*plan, 4, 5, 4])

    def test_plans_with_detours(self):
        self.assertEqual(
            joined_plan(SQUARE, SQUARE, (0,), [0, 0, 0], [0, 0, 0]), [0, 0, 0, 1, 1, 1, 0, 0, 0])

    def test_it_solves_the_joined_task_within_the_registers(self):
        for first, second, links in (
                (SQUARE, TRIPLE, (0, None)), (SQUARE, TRIPLE, (None, None)), (MIXED, TRIPLE, (3, 1)),
                (MIXED, SQUARE, (None,)), (SQUARE, MIXED, (None, 0, 0)), (TRIPLE, TRIPLE, (1, 1)),
                (MIXED, (7, 1, (("*", "x0", "x0"), ("*", "s0", "s0"), ("*", "s1", "x0")), (0, 1, 2)), (3,))):
            for registers, others in product(range(1, 6), repeat=2):
                plan = shortest_plan(task_of(first), registers)
                other = shortest_plan(task_of(second), others)
                if plan is not None and other is not None:
                    self.check_peak(first, second, links, plan, other)

    def check_peak(self, first, second, links, plan, other):
        peaks = [look(task_of(first), plan)[1], look(task_of(second), other)[1]]
        for keep in (False, True):
            most = max(peaks[0], peaks[1] + len(first[3]), 0 if keep else peaks[0] + len(second[3]))
            task = task_of(joined(first, second, links, keep=keep))
            found = joined_plan(first, second, links, plan, other, keep=keep)
            _, peak, solves = look(task, found)
            self.assertTrue(solves)
            self.assertLessEqual(peak, most)
            self.assertEqual(len(found), len(plan) * (1 if keep else 2) + len(other))

    def test_plans_with_faults(self):
        for keep in (False, True):
            self.assertEqual(
                fault(joined_plan, MIXED, TRIPLE, (3, 1), [0, 2], [0, 1, 0], keep=keep), (PlanError, "not possible", 1))
            self.assertEqual(
                fault(joined_plan, MIXED, TRIPLE, (3, 1), [0, 1], [0, 1, 0], keep=keep), (PlanError, "other targets", -1))
            self.assertEqual(
                fault(joined_plan, SQUARE, TRIPLE, (0, None), [0], [0, 0, 1], keep=keep), (PlanError, "not possible", 2))
            self.assertEqual(
                fault(joined_plan, SQUARE, TRIPLE, (0, None), [0], [0, 1], keep=keep), (PlanError, "other targets", -1))

    def test_programs_that_cannot_be_joined(self):
        for keep in (False, True):
            self.assertEqual(
                fault(joined_plan, SQUARE, (8, *SQUARE[1:]), (0,), [0], [0], keep=keep), (JoinError, "other modulus", -1))
            self.assertEqual(
                fault(joined_plan, SQUARE, SQUARE, (1,), [0], [0], keep=keep), (JoinError, "wrong link", 0))
            self.assertEqual(
                fault(joined_plan, program(6, 1, (0,)), SQUARE, (None,), [0], [0], keep=keep),
                (JoinError, "too many inputs", -1))
            self.assertEqual(
                fault(joined_plan, program(1, 8, (0,), 11), (11, *SQUARE[1:]), (0,), [0], [0], keep=keep),
                (JoinError, "too many steps", -1))

    def test_shared_steps(self):
        first = (7, 1, (("+", "x0", "1"), ("*", "s0", "3")), (0, 1))
        second = (7, 1, (("*", "x0", "3"),), (0,))
        self.assertEqual(fault(joined_plan, first, second, (0,), [0, 1], [0]), (JoinError, "shared steps", -1))
        self.assertEqual(
            fault(joined_plan, first, second, (0,), [0, 1], [0], keep=True), (JoinError, "shared steps", -1))
        self.assertIsNone(fault(joined_plan, first, second, (1,), [0, 1], [0]))

    def test_steps_of_the_second_program_that_become_equal_are_shared(self):
        second = (7, 2, (("+", "x0", "1"), ("+", "x1", "1")), (0, 1))
        self.assertEqual(
            fault(joined_plan, SQUARE, second, (0, 0), [0], [0, 1]), (JoinError, "shared steps", -1))
        self.assertIsNone(fault(joined_plan, SQUARE, second, (0, None), [0], [0, 1]))

    def test_the_number_of_the_moves(self):
        for first, second, wanted in ((1, 253, None), (127, 1, None), (1, 255, 1), (127, 3, 1), (63, 129, None),
                                      (129, 1, 1), (101, 53, None), (101, 55, 1)):
            found = fault(joined_plan, SQUARE, SQUARE, (0,), [0] * first, [0] * second)
            self.assertEqual(found, wanted and (JoinError, "too many moves", -1), (first, second))
            if wanted is None:
                moves = joined_plan(SQUARE, SQUARE, (0,), [0] * first, [0] * second)
                self.assertEqual(len(moves), 2 * first + second)

    def test_the_number_of_the_moves_with_keep(self):
        two = (7, 1, (("*", "x0", "x0"), ("+", "x0", "x0")), (0, 1))
        # The first plan has an even number of moves, the second one an odd one: 255 or 257 in all.
        for first, second, wanted in ((254, 1, None), (2, 253, None), (256, 1, 1), (2, 255, 1), (128, 127, None)):
            found = fault(joined_plan, two, SQUARE, (1,), [0, 1] + [0] * (first - 2), [0] * second, keep=True)
            self.assertEqual(found, wanted and (JoinError, "too many moves", -1), (first, second))
        # Both have an even number: 254 or 256 in all.
        plain = (7, 1, (("-", "x0", "1"), ("-", "x0", "2")), (0, 1))
        for second, wanted in ((252, None), (254, 1)):
            found = fault(joined_plan, two, plain, (1,), [0, 1], [0, 1] + [0] * (second - 2), keep=True)
            self.assertEqual(found, wanted and (JoinError, "too many moves", -1), second)

    def test_the_first_of_several_faults_counts(self):
        first, second = program(6, 8, (0,), 11), (11, 2, (("+", "x0", "x1"), ("*", "s0", "s0")), (1,))
        wrong = (7, *second[1:])
        self.assertEqual(
            fault(joined_plan, first, wrong, (9, 9), [], [1]), (PlanError, "other targets", -1))
        self.assertEqual(
            fault(joined_plan, MIXED, wrong, (9, 9), [1], []), (PlanError, "not possible", 0))
        self.assertEqual(
            fault(joined_plan, first, wrong, (9, 9), [0], [1]), (PlanError, "not possible", 0))
        self.assertEqual(
            fault(joined_plan, first, wrong, (9, 9), [0], []), (PlanError, "other targets", -1))
        self.assertEqual(
            fault(joined_plan, first, wrong, (9, 9), [0], [0, 1, 0]), (JoinError, "other modulus", -1))
        self.assertEqual(
            fault(joined_plan, first, second, (0, 9), [0] * 301, [0, 1, 0]), (JoinError, "wrong link", 1))
        self.assertEqual(
            fault(joined_plan, first, second, (0, None), [0] * 301, [0, 1, 0]), (JoinError, "too many inputs", -1))
        self.assertEqual(
            fault(joined_plan, first, second, (0, 0), [0] * 301, [0, 1, 0]), (JoinError, "too many steps", -1))
        shared = (7, 2, (("+", "x0", "1"), ("+", "x1", "1")), (0, 1))
        self.assertEqual(
            fault(joined_plan, SQUARE, shared, (0, 0), [0] * 301, [0, 1]), (JoinError, "shared steps", -1))

    def test_the_plans_stay_as_they_are_and_the_list_is_new(self):
        for keep in (False, True):
            plan, other = [0, 1, 2, 3, 2, 0], [0, 1, 0]
            passed = copy.deepcopy((plan, other))
            first = joined_plan(MIXED, TRIPLE, (3, 1), plan, other, keep=keep)
            wanted = list(first)
            self.assertIs(type(first), list)
            self.assertEqual((plan, other), passed)
            first.clear()
            self.assertEqual(joined_plan(MIXED, TRIPLE, (3, 1), plan, other, keep=keep), wanted)


if __name__ == "__main__":
    unittest.main()
