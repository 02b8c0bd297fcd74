"""[3] and [5]: programs and their texts."""

import unittest

from samples import EXAMPLE, EXAMPLE_TEXT, LONGEST, PAIRS
from tidyback.programs import format_program, read_program


class TextsTest(unittest.TestCase):
    def test_programs_are_formatted(self):
        for text, program in PAIRS:
            self.assertEqual(format_program(program), text)

    def test_texts_are_read(self):
        for text, program in PAIRS:
            self.assertEqual(read_program(text), program)

    def test_the_last_newline_may_be_missing(self):
        for text, program in PAIRS:
            self.assertEqual(read_program(text[:-1]), program)

    def test_moduli_inputs_and_constants_at_their_limits(self):
        for modulus in (2, 3, 999, 1000):
            for inputs in (1, 2, 5, 6):
                step = ("-", f"x{inputs - 1}", f"{modulus - 1}")
                program = (modulus, inputs, (step, ("*", "0", "s0")), (1,))
                text = (f"mod {modulus}\ninputs {inputs}\ns0 = x{inputs - 1} - {modulus - 1}\n"
                        "s1 = 0 * s0\nreturn s1\n")
                self.assertEqual(format_program(program), text)
                self.assertEqual(read_program(text), program)

    def test_each_operation_with_each_sort_of_operand(self):
        operands = ("x0", "x1", "s0", "0", "6")
        for operation in ("+", "-", "*"):
            for left in operands:
                for right in operands:
                    steps = (("+", "1", "1"), (operation, left, right))
                    text = f"mod 7\ninputs 2\ns0 = 1 + 1\ns1 = {left} {operation} {right}\nreturn s1\n"
                    self.assertEqual(format_program((7, 2, steps, (1,))), text)
                    self.assertEqual(read_program(text), (7, 2, steps, (1,)))

    def test_each_choice_of_outputs(self):
        modulus, inputs, steps, _ = LONGEST
        for chosen in range(1, 256):
            outputs = tuple(k for k in range(8) if chosen >> k & 1)
            program = (modulus, inputs, steps, outputs)
            text = format_program(program)
            self.assertEqual(read_program(text), program)
            names = " ".join(f"s{k}" for k in outputs)
            self.assertEqual(text.split("\n")[-2], f"return {names}")

    def test_the_kinds_of_what_is_read(self):
        modulus, inputs, steps, outputs = read_program(EXAMPLE_TEXT)
        self.assertEqual([type(modulus), type(inputs)], [int, int])
        self.assertEqual([type(steps), type(outputs)], [tuple, tuple])
        for step in steps:
            self.assertIs(type(step), tuple)
            self.assertEqual([type(word) for word in step], [str, str, str])
        self.assertEqual([type(output) for output in outputs], [int])

    def test_programs_beyond_the_limits_are_formatted(self):
        steps = tuple(("+", f"x{k}", "1234") for k in range(12))
        text = format_program((1234, 12, steps, tuple(range(12))))
        self.assertEqual(len(text.split("\n")), 16)
        self.assertTrue(text.startswith("mod 1234\ninputs 12\ns0 = x0 + 1234\n"))
        self.assertTrue(text.endswith("s11 = x11 + 1234\n"
                                      "return s0 s1 s2 s3 s4 s5 s6 s7 s8 s9 s10 s11\n"))

    def test_the_example_of_the_document(self):
        self.assertEqual(
            repr(read_program(EXAMPLE_TEXT)),
            "(97, 2, (('+', 'x0', 'x1'), ('*', 's0', 's0'), ('-', 's1', '3'), "
            "('*', 's2', 'x0')), (3,))")
        self.assertEqual(EXAMPLE, read_program(EXAMPLE_TEXT))


if __name__ == "__main__":
    unittest.main()
