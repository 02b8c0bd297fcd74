"""[32] to [34]: benches."""

import copy
import unittest
from itertools import product
from random import Random

from oracle import shortest
from samples import CHAIN, FORK, FREE, LONG_CHAIN, PYRAMID, TASKS, TWIN, WIDE
from tidyback.benches import Bench
from tidyback.errors import BenchError
from tidyback.planning import shortest_plan


def fault(call, *passed):
    """Return the what of the BenchError that a call raises, or None."""
    try:
        call(*passed)
    except BenchError as error:
        return error.what
    return None


def told(bench):
    """Return all that a bench tells of itself."""
    return bench.task, bench.registers, bench.configuration, bench.log


def filled(bench, entries):
    """Return the bench, with so many entries in its log, where step 0 is added and removed."""
    while len(bench) < entries:
        bench.toggle(0)
    return bench


class NewTest(unittest.TestCase):
    def test_a_new_bench(self):
        for task in TASKS:
            for registers in (1, 3, 8):
                bench = Bench(task, registers)
                self.assertEqual(told(bench), (task, registers, (), []))
                self.assertEqual((len(bench), list(bench)), (0, []))

    def test_the_properties_have_no_setters(self):
        bench = Bench(CHAIN, 3)
        for name in ("task", "registers", "configuration", "log"):
            with self.assertRaises(AttributeError):
                setattr(bench, name, ())
        self.assertEqual(told(bench), (CHAIN, 3, (), []))


class RefusedTest(unittest.TestCase):
    """A call that is refused changes nothing."""

    def check(self, bench, what, name, argument):
        before, way = told(bench), bench.way()
        passed = copy.deepcopy(argument)
        self.assertEqual(fault(getattr(bench, name), argument), what)
        self.assertEqual(argument, passed)
        self.assertEqual(told(bench), before)
        self.assertEqual((bench.way(), len(bench)), (way, len(before[3])))
        entry = (name, tuple(argument) if isinstance(argument, list) else argument)
        self.assertEqual(bench.replay([entry]), 0)
        self.assertEqual(told(bench), before)
        other = bench.branch()
        if other.undo():
            bench.undo()
            self.assertEqual(told(bench), told(other))
            self.assertEqual(bench.replay(before[3][-1:]), 1)
            self.assertEqual(told(bench), before)


class ToggleTest(RefusedTest):
    def test_moves(self):
        bench = Bench(CHAIN, 3)
        for move, wanted in ((0, (0,)), (1, (0, 1)), (0, (1,)), (2, (1, 2)), (3, (1, 2, 3)), (2, (1, 3))):
            self.assertEqual(bench.toggle(move), wanted)
            self.assertEqual(bench.configuration, wanted)
        self.assertEqual(bench.log, [("toggle", move) for move in (0, 1, 0, 2, 3, 2)])
        self.assertEqual((bench.task, bench.registers), (CHAIN, 3))

    def test_configurations_are_ascending(self):
        bench = Bench(WIDE, 8)
        for move in (5, 2, 7, 0):
            bench.toggle(move)
        self.assertEqual(bench.configuration, (0, 2, 5, 7))
        self.assertIs(type(bench.configuration), tuple)

    def test_no_such_step(self):
        for step in (-1, -4, 4, 8, 1000):
            self.check(Bench(CHAIN, 3), "no such step", "toggle", step)

    def test_not_possible(self):
        for step in (1, 2, 3):
            self.check(Bench(CHAIN, 3), "not possible", "toggle", step)
        bench = Bench(CHAIN, 3)
        bench.replay([("toggle", 0), ("toggle", 1), ("toggle", 0)])
        self.check(bench, "not possible", "toggle", 1)
        self.check(bench, "not possible", "toggle", 3)

    def test_too_many_registers(self):
        bench = Bench(FREE, 2)
        bench.toggle(0)
        bench.toggle(2)
        self.check(bench, "too many registers", "toggle", 1)
        self.assertEqual(bench.toggle(0), (2,))
        self.assertEqual(bench.toggle(1), (1, 2))

    def test_log_is_full(self):
        bench = filled(Bench(FREE, 3), 99)
        self.assertEqual(bench.toggle(1), (0, 1))
        self.assertEqual(len(bench), 100)
        for step in (0, 1, 2):
            self.check(bench, "log is full", "toggle", step)
        bench.undo()
        self.assertEqual(bench.toggle(2), (0, 2))

    def test_the_first_of_several_faults_counts(self):
        bench = filled(Bench((((), (), (1,)), (2,)), 1), 99)
        bench.set_registers(1)
        self.check(bench, "no such step", "toggle", 3)
        self.check(bench, "not possible", "toggle", 2)
        self.check(bench, "too many registers", "toggle", 1)
        self.check(bench, "log is full", "toggle", 0)
        bench = Bench((((), (), (1,)), (2,)), 1)
        bench.toggle(0)
        self.check(bench, "not possible", "toggle", 2)


class AddStepTest(RefusedTest):
    def test_steps_that_are_added(self):
        bench = Bench(FORK, 3)
        uses = [0, 2]
        self.assertEqual(bench.add_step(uses), 3)
        self.assertEqual(bench.task, (((), (), (0, 1), (0, 2)), (2,)))
        self.assertEqual(bench.add_step([]), 4)
        self.assertEqual(bench.add_step([0, 1, 2, 3, 4]), 5)
        self.assertEqual(bench.task, (((), (), (0, 1), (0, 2), (), (0, 1, 2, 3, 4)), (2,)))
        self.assertEqual(bench.log, [("add_step", (0, 2)), ("add_step", ()), ("add_step", (0, 1, 2, 3, 4))])
        self.assertEqual(uses, [0, 2])
        uses.clear()
        self.assertEqual(bench.task[0][3], (0, 2))
        self.assertEqual((bench.configuration, bench.registers), ((), 3))

    def test_a_step_that_was_added_is_moved(self):
        bench = Bench(FORK, 4)
        bench.add_step([1])
        self.check(bench, "not possible", "toggle", 3)
        bench.toggle(1)
        self.assertEqual(bench.toggle(3), (1, 3))

    def test_too_many_steps(self):
        bench = Bench((LONG_CHAIN[0][:7], (6,)), 8)
        self.assertEqual(bench.add_step([6]), 7)
        self.assertEqual(bench.task[0], LONG_CHAIN[0])
        for uses in ([], [7], [0, 1]):
            self.check(bench, "too many steps", "add_step", uses)

    def test_wrong_use(self):
        for uses in ([1, 0], [0, 0], [0, 2, 1], [3], [0, 3], [-1], [-1, 0], [0, 99]):
            self.check(Bench(FORK, 3), "wrong use", "add_step", uses)

    def test_log_is_full(self):
        bench = filled(Bench(FREE, 3), 99)
        self.assertEqual(bench.add_step([1]), 3)
        self.check(bench, "log is full", "add_step", [1])
        self.check(bench, "log is full", "add_step", [])

    def test_the_first_of_several_faults_counts(self):
        full = filled(Bench(WIDE, 3), 100)
        self.check(full, "too many steps", "add_step", [1, 0])
        self.check(full, "too many steps", "add_step", [1])
        self.check(filled(Bench(FREE, 3), 100), "wrong use", "add_step", [1, 0])
        self.check(Bench(WIDE, 3), "too many steps", "add_step", [9])


class SetTargetsTest(RefusedTest):
    def test_targets_that_are_set(self):
        bench = Bench(CHAIN, 3)
        targets = [0, 2]
        self.assertIsNone(bench.set_targets(targets))
        self.assertEqual(bench.task, (CHAIN[0], (0, 2)))
        self.assertIsNone(bench.set_targets([0, 1, 2, 3]))
        self.assertIsNone(bench.set_targets([3]))
        self.assertEqual(bench.task, CHAIN)
        self.assertEqual(
            bench.log, [("set_targets", (0, 2)), ("set_targets", (0, 1, 2, 3)), ("set_targets", (3,))])
        targets.clear()
        bench.undo()
        bench.undo()
        self.assertEqual(bench.task, (CHAIN[0], (0, 2)))

    def test_a_step_that_was_added(self):
        bench = Bench(CHAIN, 3)
        self.check(bench, "wrong targets", "set_targets", [4])
        bench.add_step([])
        bench.set_targets([4])
        self.assertEqual(bench.task, ((*CHAIN[0], ()), (4,)))

    def test_wrong_targets(self):
        for targets in ([], [1, 0], [1, 1], [0, 2, 1], [4], [0, 4], [-1], [-1, 0], [99]):
            self.check(Bench(CHAIN, 3), "wrong targets", "set_targets", targets)

    def test_log_is_full(self):
        bench = filled(Bench(FREE, 3), 99)
        bench.set_targets([1])
        self.check(bench, "log is full", "set_targets", [2])
        self.check(bench, "wrong targets", "set_targets", [])
        self.check(bench, "wrong targets", "set_targets", [3])


class SetRegistersTest(RefusedTest):
    def test_registers_that_are_set(self):
        bench = Bench(FREE, 3)
        for registers in (1, 8, 3, 2):
            self.assertIsNone(bench.set_registers(registers))
            self.assertEqual(bench.registers, registers)
        self.assertEqual(bench.log, [("set_registers", registers) for registers in (1, 8, 3, 2)])
        self.assertEqual((bench.task, bench.configuration), (FREE, ()))

    def test_too_many_registers(self):
        bench = Bench(FREE, 8)
        bench.toggle(0)
        bench.toggle(2)
        self.check(bench, "too many registers", "set_registers", 1)
        bench.set_registers(2)
        self.check(bench, "too many registers", "toggle", 1)
        bench.toggle(0)
        bench.set_registers(1)
        self.assertEqual(bench.registers, 1)

    def test_log_is_full(self):
        bench = filled(Bench(FREE, 3), 99)
        bench.set_registers(1)
        self.check(bench, "log is full", "set_registers", 2)
        self.check(bench, "log is full", "set_registers", 1)
        bench = filled(Bench(FREE, 3), 99)
        bench.toggle(1)
        self.check(bench, "too many registers", "set_registers", 1)


class WayTest(unittest.TestCase):
    def test_from_several_configurations(self):
        bench = Bench(CHAIN, 3)
        self.assertEqual((bench.way(), bench.remaining(), bench.hint()), ([0, 1, 0, 2, 3, 2, 0, 1, 0], 9, 0))
        bench.toggle(0)
        self.assertEqual((bench.way(), bench.remaining(), bench.hint()), ([1, 0, 2, 3, 2, 0, 1, 0], 8, 1))
        bench.replay([("toggle", 1), ("toggle", 0), ("toggle", 2), ("toggle", 3)])
        self.assertEqual((bench.way(), bench.remaining(), bench.hint()), ([2, 0, 1, 0], 4, 2))

    def test_a_step_that_is_in_the_way(self):
        bench = Bench(FREE, 3)
        bench.set_targets([2])
        bench.replay([("toggle", 0), ("toggle", 1)])
        self.assertEqual((bench.way(), bench.remaining(), bench.hint()), ([0, 1, 2], 3, 0))

    def test_no_way(self):
        bench = Bench(CHAIN, 2)
        self.assertEqual((bench.way(), bench.remaining(), bench.hint()), (None, None, None))
        bench.set_registers(3)
        self.assertEqual(bench.remaining(), 9)

    def test_the_empty_way(self):
        bench = Bench(CHAIN, 3)
        bench.replay([("toggle", move) for move in [0, 1, 0, 2, 3, 2, 0, 1, 0]])
        self.assertEqual((bench.way(), bench.remaining(), bench.hint()), ([], 0, None))

    def test_the_way_follows_the_task_and_the_registers(self):
        bench = Bench(CHAIN, 3)
        bench.set_registers(4)
        self.assertEqual(bench.way(), [0, 1, 2, 3, 2, 1, 0])
        bench.set_targets([1])
        self.assertEqual(bench.way(), [0, 1, 0])
        bench.add_step([1])
        bench.set_targets([4])
        self.assertEqual(bench.way(), [0, 1, 4, 1, 0])

    def test_each_move_that_is_hinted_lessens_what_remains_by_one(self):
        for task in TASKS:
            for registers in (3, 4, 8):
                bench = Bench(task, registers)
                left = bench.remaining()
                while bench.hint() is not None:
                    bench.toggle(bench.hint())
                    left -= 1
                    self.assertEqual(bench.remaining(), left)
                if left is not None:
                    self.assertEqual((left, bench.configuration), (0, task[1]))
                    self.assertEqual([move for _, move in bench.log], shortest_plan(task, registers))

    def test_by_the_oracle(self):
        for task, registers in ((CHAIN, 3), (PYRAMID, 5), (TWIN, 4), (FORK, 2), (FORK, 3)):
            chance = Random(registers)
            bench = Bench(task, registers)
            for _ in range(60):
                fault(bench.toggle, chance.randrange(len(task[0])))
                self.assertEqual(bench.way(), shortest(task, registers, bench.configuration))

    def test_the_list_is_new_and_the_bench_as_it_was(self):
        bench = Bench(CHAIN, 3)
        before = told(bench)
        bench.way().clear()
        bench.remaining()
        bench.hint()
        self.assertEqual(told(bench), before)
        self.assertEqual(bench.way(), [0, 1, 0, 2, 3, 2, 0, 1, 0])


class UndoTest(unittest.TestCase):
    def test_the_empty_log(self):
        bench = Bench(CHAIN, 3)
        self.assertIs(bench.undo(), False)
        self.assertEqual(told(bench), (CHAIN, 3, (), []))
        bench.toggle(0)
        self.assertIs(bench.undo(), True)
        self.assertIs(bench.undo(), False)
        self.assertEqual(told(bench), (CHAIN, 3, (), []))

    def test_each_kind_of_entry(self):
        for call in (lambda b: b.toggle(1), lambda b: b.toggle(0), lambda b: b.add_step([0, 2]),
                     lambda b: b.set_targets([0, 1]), lambda b: b.set_registers(7)):
            bench = Bench(FREE, 3)
            bench.toggle(0)
            before = told(bench)
            call(bench)
            self.assertNotEqual(told(bench), before)
            self.assertIs(bench.undo(), True)
            self.assertEqual(told(bench), before)

    def test_entries_that_change_nothing(self):
        bench = Bench(CHAIN, 3)
        bench.set_registers(3)
        bench.set_targets([3])
        self.assertEqual(len(bench), 2)
        self.assertIs(bench.undo(), True)
        self.assertEqual(told(bench), (CHAIN, 3, (), [("set_registers", 3)]))
        self.assertIs(bench.undo(), True)
        self.assertEqual(len(bench), 0)

    def test_all_the_way_back(self):
        bench = Bench(CHAIN, 3)
        stages = [told(bench)]
        for entry in [("toggle", 0), ("add_step", (0, 3)), ("set_targets", (1, 4)), ("toggle", 1), ("toggle", 0),
                      ("set_registers", 1), ("set_registers", 8), ("toggle", 2), ("add_step", ()), ("toggle", 5)]:
            self.assertEqual(bench.replay([entry]), 1)
            stages.append(told(bench))
        for stage in stages[::-1]:
            self.assertEqual(told(bench), stage)
            self.assertIs(bench.undo(), stage != stages[0])

    def test_behind_undo_the_bench_goes_on(self):
        bench = Bench(CHAIN, 3)
        bench.replay([("toggle", 0), ("toggle", 1)])
        bench.undo()
        bench.toggle(0)
        self.assertEqual(told(bench), (CHAIN, 3, (), [("toggle", 0), ("toggle", 0)]))
        bench.undo()
        self.assertEqual(told(bench), (CHAIN, 3, (0,), [("toggle", 0)]))


class ReplayTest(unittest.TestCase):
    ENTRIES = [("toggle", 0), ("add_step", (0, 3)), ("set_targets", (1, 4)), ("set_registers", 2), ("toggle", 1)]

    def test_all_entries(self):
        bench = Bench(CHAIN, 3)
        entries = list(self.ENTRIES)
        self.assertEqual(bench.replay(entries), 5)
        self.assertEqual(told(bench), (((*CHAIN[0], (0, 3)), (1, 4)), 2, (0, 1), self.ENTRIES))
        self.assertEqual(entries, self.ENTRIES)

    def test_no_entries(self):
        bench = Bench(CHAIN, 3)
        self.assertEqual(bench.replay([]), 0)
        self.assertEqual(told(bench), (CHAIN, 3, (), []))

    def test_up_to_the_first_one_that_is_refused(self):
        for at, wrong in product(range(6), (("toggle", 9), ("toggle", 3), ("add_step", (1, 0)), ("set_targets", ()))):
            bench, other = Bench(CHAIN, 3), Bench(CHAIN, 3)
            self.assertEqual(bench.replay(self.ENTRIES[:at] + [wrong] + self.ENTRIES[at:]), at)
            self.assertEqual(other.replay(self.ENTRIES[:at]), at)
            self.assertEqual(told(bench), told(other))
        bench = Bench(CHAIN, 3)
        bench.replay([("toggle", 0), ("toggle", 1)])
        self.assertEqual(bench.replay([("set_registers", 2), ("set_registers", 1), ("set_registers", 3)]), 1)
        self.assertEqual((bench.registers, len(bench)), (2, 3))

    def test_up_to_a_full_log(self):
        bench = filled(Bench(CHAIN, 3), 97)
        self.assertEqual(bench.replay([("set_registers", 5)] * 5), 3)
        self.assertEqual(len(bench), 100)
        self.assertEqual(bench.replay([("set_registers", 5)]), 0)

    def test_the_log_of_a_bench_makes_an_equal_one(self):
        bench = Bench(CHAIN, 3)
        bench.replay(self.ENTRIES)
        other = Bench(CHAIN, 3)
        self.assertEqual(other.replay(bench.log), 5)
        self.assertTrue(other == bench)
        self.assertEqual(other.log, bench.log)

    def test_its_own_log(self):
        bench = Bench(CHAIN, 3)
        bench.toggle(0)
        self.assertEqual(bench.replay(bench.log), 1)
        self.assertEqual(told(bench), (CHAIN, 3, (), [("toggle", 0), ("toggle", 0)]))


class BranchTest(unittest.TestCase):
    def setUp(self):
        self.bench = Bench(CHAIN, 3)
        self.bench.replay([("toggle", 0), ("add_step", (0,)), ("toggle", 1)])

    def test_it_is_like_the_bench(self):
        other = self.bench.branch()
        self.assertIs(type(other), Bench)
        self.assertIsNot(other, self.bench)
        self.assertTrue(other == self.bench)
        self.assertEqual(told(other), told(self.bench))

    def test_both_are_undone_apart(self):
        other = self.bench.branch()
        before = told(self.bench)
        while other.undo():
            pass
        self.assertEqual(told(other), (CHAIN, 3, (), []))
        self.assertEqual(told(self.bench), before)
        other = self.bench.branch()
        while self.bench.undo():
            pass
        self.assertEqual(told(self.bench), (CHAIN, 3, (), []))
        self.assertEqual(told(other), before)
        self.assertIs(other.undo(), True)
        self.assertEqual(told(other)[2:], ((0,), [("toggle", 0), ("add_step", (0,))]))

    def test_both_are_changed_apart(self):
        for call in (lambda b: b.toggle(0), lambda b: b.add_step([]), lambda b: b.set_targets([0]),
                     lambda b: b.set_registers(8)):
            other = self.bench.branch()
            before = told(self.bench)
            call(other)
            self.assertEqual(told(self.bench), before)
            self.assertNotEqual(told(other), before)
            before = told(other)
            call(self.bench)
            call(self.bench.branch())
            self.bench.undo()
            self.assertEqual(told(other), before)

    def test_a_branch_of_a_branch(self):
        first = self.bench.branch()
        second = first.branch()
        first.undo()
        self.assertEqual(told(second), told(self.bench))
        second.set_registers(5)
        self.assertEqual((self.bench.registers, first.registers), (3, 3))


class HeldTest(unittest.TestCase):
    def setUp(self):
        self.bench = Bench(WIDE, 8)
        self.bench.replay([("toggle", 5), ("toggle", 1), ("toggle", 7)])

    def test_in(self):
        for step in range(-9, 10):
            self.assertIs(step in self.bench, step in (1, 5, 7))

    def test_any_value_may_be_asked(self):
        for value in (None, "1", "", b"", 1.0, 5.5, (1,), [1], {1: 1}, {1}, object(), Bench, self.bench, True, False):
            self.assertIs(value in self.bench, False, value)
        self.bench.toggle(0)
        self.assertIs(False in self.bench, False)

    def test_values_that_say_they_are_equal_to_all(self):
        class Same:
            def __eq__(self, other):
                return True

        self.assertIs(Same() in self.bench, False)

    def test_for(self):
        self.assertEqual([step for step in self.bench], [1, 5, 7])
        self.assertEqual(list(Bench(WIDE, 8)), [])

    def test_the_bench_may_be_changed_while_it_is_gone_through(self):
        for step in self.bench:
            self.bench.toggle(step)
        self.assertEqual(self.bench.configuration, ())

    def test_len_is_that_of_the_log(self):
        self.assertEqual(len(self.bench), 3)
        self.bench.toggle(1)
        self.assertEqual(len(self.bench), 4)
        self.bench.undo()
        self.bench.undo()
        self.assertEqual(len(self.bench), 2)

    def test_the_log_is_a_new_list(self):
        log = self.bench.log
        log.clear()
        self.assertEqual(self.bench.log, [("toggle", 5), ("toggle", 1), ("toggle", 7)])
        self.assertEqual(len(self.bench), 3)
        self.bench.log.append(1)
        self.assertIs(self.bench.undo(), True)


class EqualityTest(unittest.TestCase):
    def test_benches_that_are_equal_with_other_logs(self):
        first, second = Bench(CHAIN, 3), Bench(CHAIN, 3)
        self.assertTrue(first == second)
        first.replay([("toggle", 0), ("toggle", 0)])
        self.assertTrue(first == second)
        self.assertFalse(first != second)
        first.replay([("set_registers", 4), ("set_registers", 3), ("set_targets", (1,)), ("set_targets", (3,))])
        self.assertTrue(first == second)
        first.undo()
        self.assertFalse(first == second)
        self.assertTrue(first == first)

    def test_benches_that_differ_in_one_thing(self):
        bench = Bench(FREE, 3)
        for entry in (("toggle", 0), ("add_step", ()), ("set_targets", (0,)), ("set_registers", 4)):
            other = Bench(FREE, 3)
            other.replay([entry])
            self.assertFalse(bench == other)
            self.assertFalse(other == bench)
            self.assertTrue(bench != other)
        self.assertFalse(bench == Bench(FORK, 3))
        self.assertFalse(bench == Bench(FREE, 2))

    def test_other_values(self):
        bench = Bench(CHAIN, 3)
        for other in (None, 0, "bench", CHAIN, (CHAIN, 3, ()), [], object()):
            self.assertIs(bench.__eq__(other), NotImplemented)
            self.assertFalse(bench == other)
            self.assertTrue(bench != other)

    def test_no_hash(self):
        with self.assertRaises(TypeError):
            hash(Bench(CHAIN, 3))
        self.assertIsNone(Bench.__hash__)


class KindsTest(unittest.TestCase):
    def test_the_kinds_of_the_entries(self):
        bench = Bench(CHAIN, 3)
        bench.toggle(0)
        bench.add_step([0])
        bench.set_targets([1, 4])
        bench.set_registers(5)
        self.assertEqual([type(entry) for entry in bench.log], [tuple] * 4)
        self.assertEqual([type(argument) for _, argument in bench.log], [int, tuple, tuple, int])

    def test_numbers_beyond_the_limits(self):
        bench = Bench(FREE, 9)
        self.assertIsNone(fault(bench.set_registers, 12))
        self.assertIsNone(fault(bench.set_registers, 0))
        self.assertEqual(fault(bench.toggle, 0), "too many registers")
        self.assertEqual((bench.way(), bench.hint()), (None, None))


if __name__ == "__main__":
    unittest.main()
