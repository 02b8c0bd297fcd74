"""[12] to [15]: certificates of numbers of moves."""

import unittest

import oracle
from oracle import all_tasks, configuration_of, edges, shortest
from samples import CHAIN, EXAMPLE, FORK, FREE, LONG_CHAIN, TASKS, WIDE
from tidyback.certificates import certificate, flaw, is_right
from tidyback.programs import task_of
from variants import changed, replaced

ONE = (((),), (0,))
# Right: the shortest plan for FORK within 3 registers has 5 moves.
FORK_LEVELS = (
    ((),), ((0,), (1,)), ((0, 1),), ((0, 1, 2),), ((0, 2), (1, 2)))
# Right: within 2 registers there is none.
CHAIN_LEVELS = (((),), ((0,),), ((0, 1),), ((1,),), ((1, 2),))


class CertificateTest(unittest.TestCase):
    def test_a_task_with_a_plan(self):
        self.assertEqual(certificate(FORK, 3), (3, 5, FORK_LEVELS))
        self.assertEqual(certificate(ONE, 1), (1, 1, (((),),)))
        self.assertEqual(
            certificate(FREE, 3),
            (3, 3, (((),), ((0,), (1,), (2,)), ((0, 1), (0, 2), (1, 2)))))
        self.assertEqual(
            certificate((CHAIN[0], (1,)), 2), (2, 3, (((),), ((0,),), ((0, 1),))))

    def test_a_task_without_a_plan(self):
        self.assertEqual(certificate(CHAIN, 2), (2, None, CHAIN_LEVELS))
        self.assertEqual(certificate(CHAIN, 1), (1, None, (((),), ((0,),))))
        self.assertEqual(certificate(FORK, 1), (1, None, (((),), ((0,), (1,)))))
        self.assertEqual(
            certificate(FREE, 2), (2, None, (((),), ((0,), (1,), (2,)), ((0, 1), (0, 2), (1, 2)))))

    def test_more_registers_than_are_needed(self):
        registers, moves, levels = certificate(CHAIN, 8)
        self.assertEqual((registers, moves, len(levels)), (8, 7, 7))
        self.assertEqual(certificate(ONE, 8), (8, 1, (((),),)))

    def test_levels_by_their_words(self):
        for task in (*all_tasks(3), *all_tasks(4)[::31], *TASKS):
            for registers in range(1, 6):
                plan = shortest(task, registers)
                moves = None if plan is None else len(plan)
                levels = oracle.levels_of(task, registers, edges, plan)
                self.assertEqual(certificate(task, registers), (registers, moves, levels))

    def test_the_certificate_of_a_task_is_right(self):
        for task in (*all_tasks(3), *TASKS, LONG_CHAIN, WIDE):
            for registers in range(1, 9):
                self.assertIs(is_right(task, certificate(task, registers)), True)
                self.assertIsNone(flaw(task, certificate(task, registers)))

    def test_the_kinds(self):
        for registers in (2, 3):
            found = certificate(CHAIN, registers)
            _, _, levels = found
            self.assertEqual([type(found), type(levels)], [tuple, tuple])
            for level in levels:
                self.assertTrue(type(level) is tuple and all(type(each) is tuple for each in level))

    def test_the_example_of_the_document(self):
        task = task_of(EXAMPLE)
        self.assertEqual(
            certificate(task, 2), (2, None, (((),), ((0,),), ((0, 1),), ((1,),), ((1, 2),))))
        self.assertEqual(
            flaw(task, (2, None, (((),), ((0,),), ((0, 1),), ((1,),)))), ("step", 3, (1,), 2))


class FlawTest(unittest.TestCase):
    def check(self, task, given, wanted):
        """Check the flaw of a certificate, and that the oracle finds the same one."""
        self.assertEqual(oracle.flaw(task, given), wanted)
        self.assertEqual(flaw(task, given), wanted)
        self.assertIs(is_right(task, given), wanted is None)

    def test_start(self):
        self.check(CHAIN, (2, None, replaced(CHAIN_LEVELS, 0, [(0,)])), ("start",))
        self.check(CHAIN, (2, None, replaced(CHAIN_LEVELS, 0, [])), ("start",))
        self.check(CHAIN, (2, None, (((0,),), ((), (0,)), *CHAIN_LEVELS[2:])), ("start",))
        self.check(ONE, (1, 1, ((),)), ("start",))

    def test_the_empty_configuration_behind_others(self):
        levels = (((0,), ()), ((1,), (2,), (0, 1), (0, 2)), ((1, 2),))
        self.check(FREE, (2, None, levels), None)
        self.check(FREE, (2, 3, levels), None)

    def test_count(self):
        for moves in (1, 2, 4, 6, 255):
            self.check(FORK, (3, moves, FORK_LEVELS), ("count",))
        self.check(FORK, (3, 5, FORK_LEVELS), None)
        self.check(CHAIN, (2, 5, CHAIN_LEVELS), None)
        self.check(CHAIN, (2, 6, CHAIN_LEVELS), ("count",))
        self.check(FORK, (3, 6, (*FORK_LEVELS, ())), ("step", 4, (0, 2), 0))

    def test_no_count_is_wrong_if_moves_is_none(self):
        for more in range(4):
            self.check(CHAIN, (2, None, CHAIN_LEVELS + ((),) * more), None)

    def test_target(self):
        self.check(FORK, (3, 5, replaced(FORK_LEVELS, 4, [(0, 2), (2,), (1, 2)])), ("target", 4))
        self.check(FORK, (3, 5, replaced(FORK_LEVELS, 4, [(0, 2), (1, 2), (2,)])), ("target", 4))
        self.check(FORK, (3, 5, replaced(FORK_LEVELS, 0, [(), (2,)])), ("target", 0))
        self.check(CHAIN, (2, None, (*CHAIN_LEVELS, ((3,),))), ("target", 5))
        self.check(FORK, (3, 6, (*FORK_LEVELS, ((2,),))), ("target", 5))

    def test_the_first_level_with_the_targets_counts(self):
        self.check(FORK, (3, 5, (*FORK_LEVELS[:2], ((2,), (0, 1)), FORK_LEVELS[3], ((2,),))), ("target", 2))

    def test_other_configurations_with_the_targets_are_no_flaw(self):
        levels = (((),), ((0,), (1,), (2,)), ((0, 1), (0, 2), (1, 2)))
        self.check(FREE, (3, 3, levels), None)
        self.check(FREE, (2, None, levels), None)

    def test_step(self):
        self.check(FORK, (3, 5, replaced(FORK_LEVELS, 2, [])), ("step", 1, (0,), 1))
        self.check(FORK, (3, 5, replaced(FORK_LEVELS, 1, [(1,)])), ("step", 0, (), 0))
        self.check(FORK, (3, 5, replaced(FORK_LEVELS, 1, [(0,)])), ("step", 0, (), 1))
        self.check(FORK, (3, 5, replaced(FORK_LEVELS, 3, [])), ("step", 2, (0, 1), 2))
        self.check(FORK, (3, 5, replaced(FORK_LEVELS, 4, [(0, 2)])), ("step", 3, (0, 1, 2), 0))
        self.check(FORK, (3, 5, replaced(FORK_LEVELS, 4, [(1, 2)])), ("step", 3, (0, 1, 2), 1))

    def test_the_first_level_counts(self):
        self.check(FORK, (3, 5, (((),), ((0,), (1,)), (), (), ())), ("step", 1, (0,), 1))
        self.check(FORK, (3, 5, (((),), ((0,),), (), (), ())), ("step", 0, (), 1))

    def test_the_first_configuration_in_the_order_of_the_tuple_counts(self):
        without = replaced(FORK_LEVELS, 2, [])
        self.check(FORK, (3, 5, replaced(without, 1, [(0,), (1,)])), ("step", 1, (0,), 1))
        self.check(FORK, (3, 5, replaced(without, 1, [(1,), (0,)])), ("step", 1, (1,), 0))
        self.check(FREE, (3, None, (((),), ((2,), (0,), (1,)), ((0, 1), (0, 2)))), ("step", 1, (2,), 1))
        self.check(FREE, (3, None, (((),), ((0,), (2,), (1,)), ((0, 1), (0, 2)))), ("step", 1, (2,), 1))
        self.check(FREE, (3, None, (((),), ((0,), (1,), (2,)), ((0, 1), (0, 2)))), ("step", 1, (1,), 2))

    def test_the_least_step_counts(self):
        self.check(FREE, (3, 2, (((),), ())), ("step", 0, (), 0))
        self.check(FREE, (3, 2, (((),), ((0,),))), ("step", 0, (), 1))
        self.check(FREE, (3, 2, (((),), ((1,), (0,)))), ("step", 0, (), 2))
        self.check(FREE, (3, 3, (((),), ((0,), (1,), (2,)), ())), ("step", 1, (0,), 1))

    def test_the_last_level_with_a_number_of_moves(self):
        """Its transitions lead behind what the certificate claims."""
        self.check(ONE, (1, 1, (((),),)), None)
        self.check(FORK, (3, 1, (((),),)), None)
        self.check(FORK, (3, 4, FORK_LEVELS[:4]), None)
        self.check(FORK, (3, 4, replaced(FORK_LEVELS[:4], 3, [(0, 1, 2), (1, 2)])), None)

    def test_the_last_level_without_a_number_of_moves(self):
        self.check(FORK, (3, None, FORK_LEVELS[:4]), ("step", 3, (0, 1, 2), 0))
        self.check(FORK, (3, None, FORK_LEVELS), ("step", 4, (0, 2), 0))
        self.check(ONE, (1, None, (((),),)), ("step", 0, (), 0))
        self.check(CHAIN, (2, None, CHAIN_LEVELS[:4]), ("step", 3, (1,), 2))
        self.check(CHAIN, (2, None, CHAIN_LEVELS), None)

    def test_only_the_levels_up_to_the_next_one_count(self):
        later = (((),), (), ((0,),), ((0, 1),), ((1,),), ((1, 2),))
        self.check(CHAIN, (2, None, later), ("step", 0, (), 0))
        self.check(CHAIN, (2, None, (((),), ((0,),), (), ((0, 1),), ((1,),), ((1, 2),))), ("step", 1, (0,), 1))

    def test_all_levels_before_the_next_one_count(self):
        first = ((), (0,), (0, 1), (1,), (1, 2))
        self.check(CHAIN, (2, None, (first,)), None)
        self.check(CHAIN, (2, None, (first, (), ())), None)
        self.check(CHAIN, (2, 3, (first, (), ())), None)
        self.check(CHAIN, (2, None, (first, (), ((2, 3),))), ("step", 2, (2, 3), 3))

    def test_a_configuration_in_several_levels(self):
        gathered = tuple(
            tuple(each for level in FORK_LEVELS[:k + 1] for each in level) for k in range(5))
        self.check(FORK, (3, 5, gathered), None)
        self.check(FORK, (3, 5, (*gathered[:4], FORK_LEVELS[4])), None)
        self.check(FORK, (3, 5, (*gathered[:4], FORK_LEVELS[3])), ("step", 3, (0, 1, 2), 0))
        twice = (((), (0, 1)), *FORK_LEVELS[1:])
        self.check(FORK, (3, 5, twice), ("step", 0, (0, 1), 2))
        self.check(FORK, (3, 5, replaced(twice, 1, [(0,), (1,), (0, 1, 2)])), ("step", 1, (0, 1, 2), 0))
        self.check(FORK, (3, 3, (((), (0, 1)), ((0,), (1,)), ((0, 1), (0, 1, 2)))), ("step", 0, (0, 1), 2))
        self.check(FORK, (3, 3, (((),), ((0,), (1,)), ((0, 1), (0, 1, 2)))), None)
        self.check(CHAIN, (2, None, CHAIN_LEVELS * 3), None)

    def test_a_configuration_twice_in_a_level(self):
        self.check(CHAIN, (2, None, replaced(CHAIN_LEVELS, 1, [(0,), (0,)])), None)
        self.check(CHAIN, (2, None, (((), ()), ((0,), (0,)))), ("step", 1, (0,), 1))

    def test_a_configuration_with_more_steps_than_registers(self):
        """Steps may be removed from it, if what is left is within the registers."""
        self.check(FREE, (1, None, (((), (0, 1)), ((0,), (1,), (2,)))), None)
        self.check(FREE, (1, None, (((),), ((0,), (1,), (2,)), ((0, 1),))), None)
        self.check(WIDE, (1, 2, (((), (0, 1)), tuple((step,) for step in range(1, 8)))), ("step", 0, (), 0))
        self.check(FORK, (2, None, (((), (0, 1, 2)), ((0,), (1,)), ((0, 1),))), ("step", 0, (0, 1, 2), 0))
        self.check(FORK, (1, None, (((), (0, 1, 2)), ((0,), (1,)))), None)
        self.check(FORK, (2, None, (((),), ((0,), (1,)), ((0, 1),))), None)

    def test_other_numbers_of_registers(self):
        self.check(CHAIN, (1, None, CHAIN_LEVELS), None)
        self.check(CHAIN, (3, None, CHAIN_LEVELS), ("step", 2, (0, 1), 2))
        self.check(CHAIN, (8, None, CHAIN_LEVELS), ("step", 2, (0, 1), 2))

    def test_the_first_of_several_flaws_counts(self):
        self.check(FORK, (3, 9, (((2,),), ())), ("start",))
        self.check(FORK, (3, 9, (((), (2,)), ())), ("count",))
        self.check(FORK, (3, 2, (((), (2,)), ())), ("target", 0))
        self.check(FORK, (3, 2, (((),), ((2,),))), ("target", 1))
        self.check(FORK, (3, 2, (((),), ((0,),))), ("step", 0, (), 1))
        self.check(FORK, (3, None, (((0,),), ((2,),))), ("start",))

    def test_certificates_that_are_changed_a_little(self):
        for task, registers in ((FORK, 3), (FORK, 2), (CHAIN, 2), (CHAIN, 3), (FREE, 2), (FREE, 3)):
            for given in changed(certificate(task, registers)):
                self.check(task, given, oracle.flaw(task, given))

    def test_what_a_right_certificate_claims_is_true(self):
        right = 0
        for task, registers in ((FORK, 3), (FORK, 2), (CHAIN, 2), (CHAIN, 3), (FREE, 2), (FREE, 3)):
            for within, moves, levels in changed(certificate(task, registers)):
                if is_right(task, (within, moves, levels)):
                    plan = shortest(task, within)
                    self.assertTrue(plan is None or moves is not None and moves <= len(plan))
                    right += 1
        self.assertGreater(right, 50)

    def test_certificates_beyond_the_limits(self):
        self.check(CHAIN, (2, None, CHAIN_LEVELS * 60), None)
        self.check(CHAIN, (2, 300, CHAIN_LEVELS * 60), None)
        self.check(CHAIN, (9, None, CHAIN_LEVELS * 60), ("step", 2, (0, 1), 2))
        self.check(CHAIN, (0, None, (((),),)), None)
        self.check(CHAIN, (2, 0, (((),),)), ("count",))
        self.assertEqual(flaw(CHAIN, (2, 0, ())), ("start",))
        self.assertEqual(certificate(CHAIN, 0), (0, None, (((),),)))
        self.assertEqual(certificate((((),) * 9, (8,)), 9)[:2], (9, 1))

    def test_the_greatest_certificates(self):
        task = (((),) * 8, tuple(range(8)))
        every = tuple(configuration_of(number) for number in range(255))
        self.assertIsNone(flaw(task, (7, None, (every,) * 256)))
        self.assertIsNone(flaw(task, (7, 256, (every,) * 256)))
        self.assertEqual(flaw(task, (8, 256, (every,) * 256)), ("step", 0, tuple(range(7)), 7))
        self.assertEqual(flaw(task, (7, None, (every,) * 255 + ((*every, task[1]),))), ("target", 255))


if __name__ == "__main__":
    unittest.main()
