"""[31]: machines."""

import copy
import unittest

from samples import EXAMPLE, LONGEST, SHORTEST
from test_running import some_code
from tidyback.code import compiled, run, traced
from tidyback.errors import MachineError
from tidyback.machines import Machine

ZEROS = [0] * 8
CODE = compiled(EXAMPLE, [0, 1, 0, 2, 3, 2, 0, 1, 0])
INPUTS = [5, 7]
TRACE = traced(EXAMPLE, CODE, INPUTS)


def fault(call, *passed):
    """Return the place of the MachineError that a call raises."""
    try:
        call(*passed)
    except MachineError as error:
        return error.place
    raise AssertionError("no fault")


class MachineTest(unittest.TestCase):
    def setUp(self):
        self.machine = Machine(EXAMPLE, CODE, INPUTS)

    def check(self, position):
        """Check where the machine is, and what its registers are there."""
        self.assertEqual(self.machine.position, position)
        self.assertEqual(self.machine.registers, TRACE[position])
        self.assertEqual(self.machine.registers, run(EXAMPLE, CODE[:position], INPUTS, ZEROS))

    def test_a_new_machine(self):
        self.check(0)
        self.assertEqual(self.machine.registers, ZEROS)
        self.assertEqual(len(self.machine), 9)

    def test_forward_to_the_end(self):
        for at, instruction in enumerate(CODE):
            self.check(at)
            self.assertEqual(self.machine.forward(), instruction)
        self.check(9)
        for _ in range(3):
            self.assertIsNone(self.machine.forward())
            self.check(9)

    def test_backward_to_the_start(self):
        self.assertIsNone(self.machine.backward())
        self.check(0)
        self.machine.move_to(9)
        for at in range(8, -1, -1):
            self.assertEqual(self.machine.backward(), CODE[at])
            self.check(at)
        for _ in range(3):
            self.assertIsNone(self.machine.backward())
            self.check(0)

    def test_forward_and_backward_between(self):
        self.machine.move_to(4)
        self.assertEqual(self.machine.forward(), CODE[4])
        self.assertEqual(self.machine.backward(), CODE[4])
        self.check(4)
        self.assertEqual(self.machine.backward(), CODE[3])
        self.assertEqual(self.machine.forward(), CODE[3])
        self.check(4)

    def test_move_to(self):
        for before in range(10):
            for position in range(10):
                self.machine.move_to(before)
                found = self.machine.move_to(position)
                self.assertEqual(found, abs(position - before))
                self.assertIs(type(found), int)
                self.check(position)

    def test_move_to_positions_that_are_none(self):
        for before in (0, 4, 9):
            self.machine.move_to(before)
            for position in (-1, -9, 10, 11, 1000):
                self.assertEqual(fault(self.machine.move_to, position), position)
                self.check(before)

    def test_states(self):
        self.assertEqual(self.machine.states(), TRACE)
        self.check(0)
        for position in range(10):
            self.machine.move_to(position)
            self.assertEqual(self.machine.states(), TRACE[position:])
            self.check(position)
        self.assertEqual(self.machine.states(), [TRACE[9]])

    def test_brackets_do_not_move_the_machine(self):
        for before in (0, 4, 9):
            self.machine.move_to(before)
            for position in range(10):
                self.assertEqual(self.machine[position], TRACE[position])
                self.check(before)
            for position in (-1, -9, 10, 1000):
                self.assertEqual(fault(self.machine.__getitem__, position), position)
                self.check(before)

    def test_the_instructions_in_order(self):
        for position in (0, 4, 9):
            self.machine.move_to(position)
            self.assertEqual([instruction for instruction in self.machine], CODE)
            self.assertEqual(list(self.machine), CODE)
            self.assertEqual(len(self.machine), 9)
            self.check(position)

    def test_the_machine_may_move_while_it_is_gone_through(self):
        found = [(instruction, self.machine.forward()) for instruction in self.machine]
        self.assertEqual(found, list(zip(CODE, CODE)))
        self.check(9)

    def test_the_empty_code(self):
        machine = Machine(EXAMPLE, [], INPUTS)
        self.assertEqual((len(machine), list(machine), machine.position), (0, [], 0))
        self.assertEqual((machine.forward(), machine.backward()), (None, None))
        self.assertEqual((machine[0], machine.states(), machine.registers), (ZEROS, [ZEROS], ZEROS))
        self.assertEqual(machine.move_to(0), 0)
        self.assertEqual(fault(machine.move_to, 1), 1)
        self.assertEqual(fault(machine.__getitem__, 1), 1)

    def test_code_that_looks_like_no_plan(self):
        for program, inputs in ((LONGEST, [1, 999, 0, 4, 5, 6]), (SHORTEST, [1])):
            code = some_code(program, 40, 3)
            wanted = traced(program, code, inputs)
            machine = Machine(program, code, inputs)
            for position in (40, 0, 17, 3, 39, 39, 1):
                machine.move_to(position)
                self.assertEqual(machine.registers, wanted[position])
                self.assertEqual(machine.states(), wanted[position:])

    def test_255_instructions(self):
        code = some_code(EXAMPLE, 255, 5)
        machine = Machine(EXAMPLE, code, INPUTS)
        self.assertEqual(machine.move_to(255), 255)
        self.assertEqual(machine.registers, run(EXAMPLE, code, INPUTS, ZEROS))
        self.assertEqual(machine[255], machine.registers)
        self.assertEqual(machine.move_to(0), 255)
        self.assertEqual(machine.registers, ZEROS)

    def test_what_was_passed_may_be_changed(self):
        code, inputs = list(CODE), list(INPUTS)
        machine = Machine(EXAMPLE, code, inputs)
        code.clear()
        inputs[0] = 50
        machine.move_to(9)
        self.assertEqual((machine.registers, len(machine), list(machine)), (TRACE[9], 9, CODE))
        self.assertEqual(machine[2], TRACE[2])

    def test_what_was_passed_stays_as_it_is(self):
        code, inputs = list(CODE), list(INPUTS)
        machine = Machine(EXAMPLE, code, inputs)
        machine.move_to(9)
        machine.move_to(2)
        machine.states()
        self.assertEqual((code, inputs), (CODE, INPUTS))

    def test_the_lists_are_new(self):
        self.machine.move_to(4)
        self.machine.registers.clear()
        self.machine.registers[0] = 50
        self.machine[4].clear()
        self.machine[0][0] = 9
        states = self.machine.states()
        for state in states:
            state.clear()
        states.clear()
        self.check(4)
        self.assertEqual(self.machine.states(), TRACE[4:])
        self.assertEqual(self.machine[0], ZEROS)
        self.machine.forward()
        self.check(5)

    def test_the_properties_have_no_setters(self):
        for name in ("position", "registers"):
            with self.assertRaises(AttributeError):
                setattr(self.machine, name, 0)
        self.check(0)

    def test_the_kinds(self):
        self.assertIs(type(self.machine.registers), list)
        self.assertIs(type(self.machine[3]), list)
        self.assertIs(type(self.machine.states()), list)
        self.assertIs(type(self.machine.states()[0]), list)
        self.assertIs(type(self.machine.forward()), tuple)


class EqualityTest(unittest.TestCase):
    def test_machines_that_are_equal(self):
        first, second = Machine(EXAMPLE, CODE, INPUTS), Machine(EXAMPLE, list(CODE), list(INPUTS))
        self.assertTrue(first == second)
        self.assertFalse(first != second)
        first.move_to(4)
        self.assertFalse(first == second)
        self.assertTrue(first != second)
        second.move_to(9)
        second.move_to(4)
        self.assertTrue(first == second)
        self.assertTrue(first == first)

    def test_machines_that_differ_in_one_thing(self):
        machine = Machine(EXAMPLE, CODE, INPUTS)
        other = Machine(EXAMPLE, CODE, INPUTS)
        other.forward()
        for different in (
                Machine((101, *EXAMPLE[1:]), CODE, INPUTS), Machine((*EXAMPLE[:3], (2,)), CODE, INPUTS),
                Machine(EXAMPLE, CODE[:-1], INPUTS), Machine(EXAMPLE, CODE[1:] + CODE[:1], INPUTS),
                Machine(EXAMPLE, CODE, [5, 8]), Machine(EXAMPLE, CODE, [7, 5]), other):
            self.assertFalse(machine == different)
            self.assertFalse(different == machine)
            self.assertTrue(machine != different)

    def test_the_same_registers_are_not_enough(self):
        first, second = Machine(EXAMPLE, CODE, [0, 0]), Machine(EXAMPLE, CODE, [0, 0])
        second.forward()
        self.assertEqual(first.registers, second.registers)
        self.assertFalse(first == second)

    def test_other_values(self):
        machine = Machine(EXAMPLE, CODE, INPUTS)
        for other in (None, 0, "machine", CODE, (EXAMPLE, CODE, INPUTS), object()):
            self.assertIs(machine.__eq__(other), NotImplemented)
            self.assertFalse(machine == other)
            self.assertTrue(machine != other)

    def test_no_hash(self):
        with self.assertRaises(TypeError):
            hash(Machine(EXAMPLE, CODE, INPUTS))
        self.assertIsNone(Machine.__hash__)

    def test_a_copy_is_equal(self):
        machine = Machine(EXAMPLE, CODE, INPUTS)
        machine.move_to(3)
        self.assertTrue(copy.deepcopy(machine) == machine)


if __name__ == "__main__":
    unittest.main()
