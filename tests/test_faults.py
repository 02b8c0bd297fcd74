"""[6]: the faults of texts, with their lines and words."""

import unittest

from samples import EXAMPLE_TEXT, LONGEST_TEXT, PAIRS
from tidyback.errors import ProgramError
from tidyback.programs import format_program, read_program

NO_NUMBERS = ("", "00", "01", "007", "000002", "0000002", "1000000", "0000000", "+2", "-2", "2.", "2x",
              "x", "s", "two", "2_0", "0x2", "1e1", "2,", "s2", "x2")
HEAD = "mod 10\ninputs 2\n"


def fault(text):
    """Return the pair (line, what) of the fault of a text, or None."""
    try:
        read_program(text)
    except ProgramError as error:
        return error.line, error.what
    return None


class FaultsTest(unittest.TestCase):
    def check(self, text, line, what):
        self.assertEqual(fault(text), (line, what), text)

    def check_step(self, step, what):
        """Check the fault of a second step, after the one `s0 = x0 + x1`."""
        self.check(f"{HEAD}s0 = x0 + x1\n{step}\nreturn s0\n", 4, what)

    def check_return(self, line, what):
        """Check the fault of a line behind three steps."""
        self.check(f"{HEAD}s0 = x0 + x1\ns1 = x0 * x1\ns2 = s0 - 1\n{line}\n", 6, what)


class HeadTest(FaultsTest):
    def test_expected_mod(self):
        for line in ("", " ", "mod", "mod ", "mod 1", "mod 0", "mod 1001", "mod 999999", "mod  5", " mod 5",
                     "mod 5 ", "mod 5 6", "mod\t5", "Mod 5", "mods 5", "modulus 5", "5 mod", "5",
                     "inputs 2", "return s0", "s0 = x0 + x1", "return"):
            self.check(f"{line}\ninputs 2\ns0 = x0 + x1\nreturn s0\n", 1, "expected mod")

    def test_expected_mod_with_other_words_than_numbers(self):
        for word in NO_NUMBERS:
            self.check(f"mod {word}\ninputs 2\ns0 = x0 + x1\nreturn s0\n", 1, "expected mod")

    def test_expected_inputs(self):
        for line in ("", " ", "inputs", "inputs ", "inputs 0", "inputs 7", "inputs 999999", "inputs  5",
                     " inputs 5", "inputs 5 ", "inputs 5 6", "Inputs 5", "input 5", "5 inputs", "5",
                     "mod 5", "return s0", "s0 = x0 + x1", "return"):
            self.check(f"mod 5\n{line}\ns0 = 1 + 2\nreturn s0\n", 2, "expected inputs")

    def test_expected_inputs_with_other_words_than_numbers(self):
        for word in NO_NUMBERS:
            self.check(f"mod 5\ninputs {word}\ns0 = 1 + 2\nreturn s0\n", 2, "expected inputs")

    def test_the_numbers_at_the_limits_are_right(self):
        for modulus in (2, 3, 10, 100, 999, 1000):
            for inputs in (1, 2, 3, 4, 5, 6):
                text = f"mod {modulus}\ninputs {inputs}\ns0 = 1 + 1\nreturn s0\n"
                self.assertIsNone(fault(text))

    def test_texts_that_end_early(self):
        self.check("", 1, "expected mod")
        self.check("mod 10", 2, "expected inputs")
        self.check("mod 10\n", 2, "expected inputs")
        self.check("mod 10\ninputs 2", 3, "expected return")
        self.check("mod 10\ninputs 2\n", 3, "expected return")
        self.check("mod 10\ninputs 2\ns0 = x0 + x1", 4, "expected return")
        self.check("mod 10\ninputs 2\ns0 = x0 + x1\n", 4, "expected return")
        without = LONGEST_TEXT[:LONGEST_TEXT.index("return")]
        self.check(without, 11, "expected return")
        self.check(without[:-1], 11, "expected return")

    def test_empty_lines(self):
        self.check("\n", 1, "expected mod")
        self.check("\n\n", 1, "expected mod")
        self.check("\nmod 10\ninputs 2\ns0 = x0 + x1\nreturn s0\n", 1, "expected mod")
        self.check("mod 10\n\n", 2, "expected inputs")
        self.check("mod 10\n\ninputs 2\ns0 = x0 + x1\nreturn s0\n", 2, "expected inputs")
        self.check(f"{HEAD}\n", 3, "not understood")
        self.check(f"{HEAD}\ns0 = x0 + x1\nreturn s0\n", 3, "not understood")
        self.check(f"{HEAD}s0 = x0 + x1\n\nreturn s0\n", 4, "not understood")
        self.check(f"{HEAD}s0 = x0 + x1\nreturn s0\n\n", 5, "text behind return")


class StepTest(FaultsTest):
    def test_not_understood(self):
        for line in ("", " ", "s1", "s1 =", "s1 = x0", "s1 = x0 *", "s1 = x0 * x1 x1", "s1 = x0 * x1 + x1",
                     "s1 x0 * x1", "s1 == x0 * x1", "s1 + x0 * x1", "s1 := x0 * x1", "s1 = * x0 x1",
                     "s1=x0*x1", "s1 = x0*x1", "x0 * x1", "= x0 * x1", "1 = x0 * x1", "x1 = x0 * x1",
                     "s = x0 * x1", "S1 = x0 * x1", "r1 = x0 * x1", "returns s0", "Return s0", "mod 10",
                     "inputs 2", "-s1 = x0 * x1", "s1 = x0 * x1;", "# s1", "ss1 = x0 * x1"):
            self.check_step(line, "not understood")

    def test_not_understood_with_empty_words(self):
        for line in (" s1 = x0 * x1", "s1  = x0 * x1", "s1 =  x0 * x1", "s1 = x0  * x1", "s1 = x0 *  x1",
                     "s1 = x0 * x1 ", "s1 = x0 * ", "s1 =  * x1", " = x0 * x1", "s1  x0 * x1", "s1 = x0  x1",
                     " return s0", "  return s0"):
            self.check_step(line, "not understood")

    def test_not_understood_with_another_operation(self):
        for word in ("/", "**", "//", "++", "+-", "^", "&", "x", "0", "=", "plus", "<<"):
            self.check_step(f"s1 = x0 {word} x1", "not understood")

    def test_not_understood_with_another_name(self):
        for word in NO_NUMBERS:
            self.check_step(f"s{word} = x0 * x1", "not understood")

    def test_not_understood_with_another_operand(self):
        others = ["r0", "X0", "S0", "y0", "xx0", "sx0", "x-1", "s-1", "x+0", "(x0)", "x0,"]
        others += [f"x{word}" for word in NO_NUMBERS] + [f"s{word}" for word in NO_NUMBERS]
        others += [word for word in NO_NUMBERS if word not in ("s2", "x2")]
        for word in others:
            self.check_step(f"s1 = {word} * x1", "not understood")
            self.check_step(f"s1 = x0 * {word}", "not understood")

    def test_too_many_steps(self):
        text = LONGEST_TEXT.replace("return", "s8 = x0 - x1\nreturn")
        self.check(text, 11, "too many steps")
        self.check(LONGEST_TEXT.replace("return s0", "s8 = x0 - x1"), 11, "not understood")

    def test_wrong_name(self):
        for number in (0, 2, 3, 7, 8, 10, 11, 100, 999999):
            self.check_step(f"s{number} = x0 * x1", "wrong name")
        self.check(f"{HEAD}s1 = x0 + x1\nreturn s1\n", 3, "wrong name")

    def test_unknown_operand(self):
        for word in ("x2", "x3", "x6", "x10", "x999999", "s1", "s2", "s7", "s8", "s999999",
                     "10", "11", "100", "999999"):
            self.check_step(f"s1 = {word} * x1", "unknown operand")
            self.check_step(f"s1 = x0 * {word}", "unknown operand")

    def test_unknown_operand_of_the_first_step(self):
        for word in ("s0", "s1", "x2", "10"):
            self.check(f"{HEAD}s0 = {word} + 1\nreturn s0\n", 3, "unknown operand")
            self.check(f"{HEAD}s0 = 1 + {word}\nreturn s0\n", 3, "unknown operand")

    def test_operands_at_the_limits_are_right(self):
        for word in ("x0", "x1", "s0", "0", "9"):
            self.assertIsNone(fault(f"{HEAD}s0 = x0 + x1\ns1 = {word} * {word}\nreturn s1\n"))

    def test_constants_at_each_modulus(self):
        for modulus in (2, 3, 10, 99, 100, 999, 1000):
            head = f"mod {modulus}\ninputs 1\ns0 = x0"
            self.assertIsNone(fault(f"{head} - {modulus - 1}\nreturn s0\n"))
            self.check(f"{head} - {modulus}\nreturn s0\n", 3, "unknown operand")

    def test_same_step(self):
        self.check_step("s1 = x0 + x1", "same step")
        text = f"{HEAD}s0 = x0 + x1\ns1 = s0 * 9\ns2 = s0 - 9\ns3 = s0 * 9\nreturn s3\n"
        self.check(text, 6, "same step")

    def test_steps_that_are_only_similar_are_right(self):
        for step in ("x1 + x0", "x0 - x1", "x0 * x1", "x0 + x0", "x0 + 1", "s0 + x1"):
            self.assertIsNone(fault(f"{HEAD}s0 = x0 + x1\ns1 = {step}\nreturn s1\n"))


class ReturnTest(FaultsTest):
    def test_not_understood(self):
        for line in ("return 0", "return x0", "return s", "return s0,", "return s0, s1", "return S0",
                     "return s0 and s1", "return s0 s1 1", "return = s0", "return return", "return -s0"):
            self.check_return(line, "not understood")

    def test_not_understood_with_empty_words(self):
        for line in ("return ", "return  ", "return  s0", "return s0 ", "return s0  s1"):
            self.check_return(line, "not understood")

    def test_not_understood_with_other_numbers(self):
        for word in NO_NUMBERS:
            self.check_return(f"return s{word}", "not understood")
            self.check_return(f"return s0 s{word} s1", "not understood")

    def test_no_outputs(self):
        self.check_return("return", "no outputs")
        self.check(f"{HEAD}return", 3, "no outputs")

    def test_unknown_output(self):
        for word in ("s3", "s4", "s8", "s10", "s999999"):
            self.check_return(f"return {word}", "unknown output")
            self.check_return(f"return s0 {word}", "unknown output")
        self.check(f"{HEAD}return s0\n", 3, "unknown output")

    def test_not_ascending(self):
        for line in ("return s1 s0", "return s0 s0", "return s0 s2 s1", "return s0 s1 s1", "return s2 s1 s0",
                     "return s1 s0 s2"):
            self.check_return(line, "not ascending")

    def test_ascending_outputs_are_right(self):
        for names in ("s0", "s2", "s0 s1", "s0 s2", "s0 s1 s2"):
            text = f"{HEAD}s0 = x0 + x1\ns1 = x0 * x1\ns2 = s0 - 1\nreturn {names}\n"
            self.assertIsNone(fault(text))

    def test_text_behind_return(self):
        for line in ("", " ", "return s0", "return", "s1 = x0 * x1", "s0 = x0 + x1", "anything", "mod 10", "#"):
            self.check(f"{HEAD}s0 = x0 + x1\nreturn s0\n{line}\n", 5, "text behind return")
        self.check(f"{HEAD}s0 = x0 + x1\nreturn s0\n ", 5, "text behind return")
        self.check(f"{HEAD}s0 = x0 + x1\nreturn s0\nx\ny\n", 5, "text behind return")


class FirstFaultTest(FaultsTest):
    def test_the_first_line_counts(self):
        self.check("mod 1\ninputs 0\ns1 = s1 + x9\nreturn\nmore\n", 1, "expected mod")
        self.check("mod 2\ninputs 0\ns1 = s1 + x9\nreturn\nmore\n", 2, "expected inputs")
        self.check("mod 2\ninputs 1\ns1 = s1 + x9\nreturn\nmore\n", 3, "wrong name")
        self.check("mod 2\ninputs 1\ns0 = 0 + x0\nreturn\nmore\n", 4, "no outputs")
        self.check("mod 2\ninputs 1\ns0 = 0 + x0\nreturn s0\nmore\n", 5, "text behind return")
        self.check(f"{HEAD}s0 = x0 / x1\ns0 = x9 + 0\n", 3, "not understood")

    def test_the_first_fault_of_a_step_counts(self):
        full = LONGEST_TEXT[:LONGEST_TEXT.index("return")]
        self.check(f"{full}s8 = x0 / x1\n", 11, "not understood")
        self.check(f"{full}s7 = x0 + 1\n", 11, "too many steps")
        self.check(f"{full}s8 = x6 + s8\n", 11, "too many steps")
        self.check(f"{full}s8 = x0 + x5\n", 11, "too many steps")
        self.check(f"{full}s0 = x0 + x5\n", 11, "too many steps")
        self.check_step("s2 = x2 ! 10", "not understood")
        self.check_step("s2 = x2 + 010", "not understood")
        self.check_step("s2 = x2 + 10", "wrong name")
        self.check_step("s0 = x0 + x1", "wrong name")
        self.check_step("s0 = s0 + s0", "wrong name")

    def test_the_first_fault_of_a_line_return_counts(self):
        self.check_return("return s9 x", "not understood")
        self.check_return("return s1 s0 x", "not understood")
        self.check_return("return s1 s0 s3", "unknown output")
        self.check_return("return s3 s0", "unknown output")
        self.check_return("return s3 s3", "unknown output")

    def test_a_missing_return_counts_only_if_all_lines_are_right(self):
        self.check("mod 10\ninputs 2\ns0 = x0 + x2\n", 3, "unknown operand")
        self.check("inputs 2", 1, "expected mod")
        self.check("mod 10\nreturn s0", 2, "expected inputs")


class ChangedTextsTest(unittest.TestCase):
    def test_what_is_read_is_the_text_of_its_program(self):
        """No two texts tell the same program, but for the last newline."""
        for text, _ in PAIRS:
            for changed in changed_texts(text):
                if fault(changed) is None:
                    again = format_program(read_program(changed))
                    self.assertIn(changed, (again, again[:-1]))

    def test_each_fault_is_at_a_line_that_is_there_or_the_one_behind(self):
        for changed in changed_texts(EXAMPLE_TEXT):
            found = fault(changed)
            if found is not None:
                self.assertLessEqual(1, found[0])
                self.assertLessEqual(found[0], changed.count("\n") + 2)


def changed_texts(text):
    """Return all texts with one character left out, put in or replaced, and all beginnings."""
    found = [text[:at] for at in range(len(text))]
    for at in range(len(text) + 1):
        found.append(text[:at] + text[at + 1:])
        for sign in " \n0129sxr+-*=m":
            found.append(text[:at] + sign + text[at:])
            found.append(text[:at] + sign + text[at + 1:])
    return found


if __name__ == "__main__":
    unittest.main()
