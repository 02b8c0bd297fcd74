"""[21]: the faults of code."""

import copy
import unittest

from samples import EXAMPLE, LONGEST, SHORTEST
from tidyback.code import check_code
from tidyback.errors import CodeError

GOOD = (0, "+", "+", "x0", "x1")


def fault(program, code):
    """Return the pair (what, place) of the fault of code, or None."""
    try:
        found = check_code(program, code)
    except CodeError as error:
        return error.what, error.place
    assert found is None
    return None


class CheckCodeTest(unittest.TestCase):
    def check(self, instruction, what, program=EXAMPLE):
        """Check the fault of an instruction, at several places."""
        for before in (0, 1, 254):
            found = fault(program, [GOOD if program == EXAMPLE else (0, "+", "+", "0", "0")] * before + [instruction])
            self.assertEqual(found, None if what is None else (what, before), instruction)

    def test_code_without_a_fault(self):
        self.assertIsNone(fault(EXAMPLE, []))
        for number in range(8):
            for sign in "+-":
                for operation in "+-*":
                    self.check((number, sign, operation, "x0", "96"), None)

    def test_the_number_of_the_instructions(self):
        self.assertIsNone(fault(EXAMPLE, [GOOD] * 254))
        self.assertIsNone(fault(EXAMPLE, [GOOD] * 255))
        self.assertEqual(fault(EXAMPLE, [GOOD] * 256), ("too many instructions", 255))
        self.assertEqual(fault(EXAMPLE, [GOOD] * 300), ("too many instructions", 255))

    def test_registers_at_the_ends_of_their_range(self):
        for number in (0, 1, 6, 7):
            self.check((number, "+", "+", "x0", "x1"), None)
        for number in (-1, -8, 8, 9, 1000):
            self.check((number, "+", "+", "x0", "x1"), "no such register")

    def test_inputs_at_the_ends_of_their_range(self):
        for left, right in (("x0", "x0"), ("x1", "x0"), ("x0", "x1")):
            self.check((3, "-", "*", left, right), None)
        for word in ("x2", "x3", "x10", "x100", "x1234567"):
            self.check((3, "+", "+", word, "x0"), "unknown source")
            self.check((3, "+", "+", "x0", word), "unknown source")
        self.check((0, "+", "+", "x5", "x5"), None, LONGEST)
        self.check((0, "+", "+", "x6", "x5"), "unknown source", LONGEST)
        self.check((0, "+", "+", "x0", "x0"), None, SHORTEST)
        self.check((0, "+", "+", "x0", "x1"), "unknown source", SHORTEST)

    def test_registers_as_sources_at_the_ends_of_their_range(self):
        for word in ("r0", "r1", "r6", "r7"):
            self.check((3, "+", "+", word, "x0"), None)
            self.check((3, "+", "+", "x0", word), None)
            self.check((3, "-", "*", word, word), None)
        for word in ("r8", "r9", "r10", "r70", "r1234567"):
            self.check((3, "+", "+", word, "x0"), "unknown source")
            self.check((3, "+", "+", "x0", word), "unknown source")

    def test_constants_at_the_ends_of_their_range(self):
        for word in ("0", "1", "95", "96"):
            self.check((3, "+", "+", word, "x0"), None)
            self.check((3, "+", "+", "x0", word), None)
        for word in ("97", "98", "100", "1000", "96000", "9999999"):
            self.check((3, "+", "+", word, "x0"), "unknown source")
            self.check((3, "+", "+", "x0", word), "unknown source")
        self.check((0, "+", "+", "1", "0"), None, SHORTEST)
        self.check((0, "+", "+", "2", "0"), "unknown source", SHORTEST)
        self.check((0, "+", "+", "999", "0"), None, LONGEST)
        self.check((0, "+", "+", "0", "1000"), "unknown source", LONGEST)

    def test_the_own_register(self):
        for number in (0, 1, 6, 7):
            own = f"r{number}"
            self.check((number, "+", "+", own, "x0"), "own register")
            self.check((number, "-", "*", "x0", own), "own register")
            self.check((number, "-", "-", own, own), "own register")
            self.check((number, "-", "-", "r5", "r4"), None)

    def test_the_number_of_a_constant_or_an_input_is_no_register(self):
        self.check((1, "+", "+", "x1", "1"), None)
        self.check((0, "+", "+", "x0", "0"), None)

    def test_the_first_of_several_faults_counts(self):
        self.check((8, "+", "+", "x9", "97"), "no such register")
        self.check((8, "+", "+", "r8", "r8"), "no such register")
        self.check((-1, "+", "+", "x0", "x2"), "no such register")
        self.check((0, "+", "+", "r0", "x2"), "unknown source")
        self.check((0, "+", "+", "97", "r0"), "unknown source")
        self.check((7, "+", "+", "r8", "r7"), "unknown source")

    def test_the_first_instruction_with_a_fault_counts(self):
        own, unknown, none = (0, "+", "+", "r0", "1"), (1, "+", "+", "x2", "1"), (8, "+", "+", "1", "1")
        self.assertEqual(fault(EXAMPLE, [GOOD, own, unknown, none]), ("own register", 1))
        self.assertEqual(fault(EXAMPLE, [GOOD, GOOD, unknown, none, own]), ("unknown source", 2))
        self.assertEqual(fault(EXAMPLE, [none, own]), ("no such register", 0))
        self.assertEqual(fault(EXAMPLE, [GOOD] * 254 + [own, none]), ("own register", 254))
        self.assertEqual(fault(EXAMPLE, [GOOD] * 255 + [none]), ("too many instructions", 255))
        self.assertEqual(fault(EXAMPLE, [GOOD] * 400 + [none]), ("too many instructions", 255))

    def test_only_the_modulus_and_the_inputs_of_the_program_matter(self):
        other = (97, 2, (("+", "0", "0"),), (0,))
        for instruction in (GOOD, (1, "-", "*", "r7", "3"), (2, "+", "-", "x1", "96")):
            self.assertIsNone(fault(other, [instruction]))

    def test_the_code_stays_as_it_is(self):
        code = [GOOD, (8, "+", "+", "x9", "97")]
        before = copy.deepcopy(code)
        fault(EXAMPLE, code)
        self.assertEqual(code, before)


if __name__ == "__main__":
    unittest.main()
