"""[22] and [26]: what code does, and code that takes it back."""

import copy
import unittest
from itertools import product
from random import Random

from samples import EXAMPLE, LONGEST, SHORTEST
from tidyback.code import cancelled, check_code, inverted, run, traced

ZEROS = [0] * 8
CODE = [
    (0, "+", "+", "x0", "x1"), (1, "+", "*", "r0", "r0"), (0, "-", "+", "x0", "x1"), (0, "+", "-", "r1", "3")]


def some_code(program, many, seed, numbers=8):
    """Return code of so many instructions that looks like no plan."""
    chance = Random(seed)
    modulus, inputs, _, _ = program
    words = [f"x{k}" for k in range(inputs)] + [f"r{k}" for k in range(numbers)] + [str(modulus - 1), "0", "1"]
    code = []
    for _ in range(many):
        number = chance.randrange(numbers)
        free = [word for word in words if word != f"r{number}"]
        code.append((number, chance.choice("+-"), chance.choice("+-*"), chance.choice(free), chance.choice(free)))
    check_code(program, code)
    return code


def by_the_words(program, code, inputs, registers):
    """Run code with a table of all sources that there are."""
    modulus = program[0]
    contents = list(registers)
    for number, sign, operation, left, right in code:
        values = {str(k): k for k in range(modulus)}
        values.update((f"x{k}", worth) for k, worth in enumerate(inputs))
        values.update((f"r{k}", worth) for k, worth in enumerate(contents))
        a, b = values[left], values[right]
        result = {"+": a + b, "-": a - b, "*": a * b}[operation]
        contents[number] = (contents[number] + (result if sign == "+" else -result)) % modulus
    return contents


class RunTest(unittest.TestCase):
    def test_the_empty_code(self):
        self.assertEqual(run(EXAMPLE, [], [5, 7], ZEROS), ZEROS)
        self.assertEqual(run(EXAMPLE, [], [5, 7], [0, 96, 2, 3, 4, 5, 6, 7]), [0, 96, 2, 3, 4, 5, 6, 7])

    def test_each_operation_with_each_sign_and_all_values(self):
        program = (5, 2, (("+", "x0", "x1"),), (0,))
        for left, right, held in product(range(5), repeat=3):
            registers = [1, 2, held, 3, 4, 0, 1, 2]
            for operation, result in (("+", left + right), ("-", left - right), ("*", left * right)):
                for sign, wanted in (("+", held + result), ("-", held - result)):
                    found = run(program, [(2, sign, operation, "x0", "x1")], [left, right], registers)
                    self.assertEqual(found, [1, 2, wanted % 5, 3, 4, 0, 1, 2])

    def test_contents_at_the_ends_of_their_range(self):
        for sign, operation, held, wanted in (
                ("+", "+", 999, 997), ("-", "+", 0, 2), ("+", "-", 0, 0), ("-", "-", 999, 999),
                ("+", "*", 999, 0), ("-", "*", 0, 999), ("+", "*", 0, 1), ("-", "*", 999, 998)):
            found = run(LONGEST, [(7, sign, operation, "x0", "999")], [999] * 6, [0] * 7 + [held])
            # 999 + 999 is 998, 999 - 999 is 0, and 999 * 999 is 1, mod 1000.
            self.assertEqual(found, [0] * 7 + [wanted], (sign, operation, held))

    def test_left_and_right_stand_in_their_order(self):
        self.assertEqual(run(EXAMPLE, [(0, "+", "-", "x0", "x1")], [7, 5], ZEROS)[0], 2)
        self.assertEqual(run(EXAMPLE, [(0, "+", "-", "x1", "x0")], [7, 5], ZEROS)[0], 95)
        self.assertEqual(run(EXAMPLE, [(0, "-", "-", "x1", "x0")], [7, 5], ZEROS)[0], 2)

    def test_each_kind_of_source(self):
        registers = [10, 20, 30, 40, 50, 60, 70, 80]
        for number in range(8):
            other = (number + 1) % 8
            code = [(number, "+", "+", f"r{other}", "0")]
            wanted = list(registers)
            wanted[number] = (registers[number] + registers[other]) % 97
            self.assertEqual(run(EXAMPLE, code, [5, 7], registers), wanted)
        self.assertEqual(run(EXAMPLE, [(0, "+", "+", "1", "0")], [5, 7], registers)[0], 11)
        self.assertEqual(run(EXAMPLE, [(0, "+", "+", "x1", "0")], [5, 7], registers)[0], 17)
        self.assertEqual(run(LONGEST, [(0, "+", "-", "x5", "x0")], [1, 2, 3, 4, 5, 6], ZEROS)[0], 5)

    def test_instructions_run_in_their_order(self):
        self.assertEqual(run(EXAMPLE, CODE[:2], [5, 7], ZEROS), [12, 47, 0, 0, 0, 0, 0, 0])
        self.assertEqual(run(EXAMPLE, CODE[1::-1], [5, 7], ZEROS), [12, 0, 0, 0, 0, 0, 0, 0])
        self.assertEqual(run(EXAMPLE, CODE, [5, 7], ZEROS), [44, 47, 0, 0, 0, 0, 0, 0])

    def test_code_that_looks_like_no_plan(self):
        for program, inputs in ((EXAMPLE, [5, 96]), (LONGEST, [1, 999, 0, 4, 5, 6]), (SHORTEST, [1])):
            for seed in range(30):
                code = some_code(program, 20, seed)
                registers = [seed * k % program[0] for k in range(8)]
                self.assertEqual(
                    run(program, code, inputs, registers), by_the_words(program, code, inputs, registers))

    def test_255_instructions(self):
        code = some_code(EXAMPLE, 255, 1)
        self.assertEqual(run(EXAMPLE, code, [3, 4], ZEROS), by_the_words(EXAMPLE, code, [3, 4], ZEROS))

    def test_what_is_passed_stays_as_it_is_and_the_list_is_new(self):
        code, inputs, registers = list(CODE), [5, 7], list(range(8))
        found = run(EXAMPLE, code, inputs, registers)
        wanted = list(found)
        self.assertIs(type(found), list)
        self.assertEqual((code, inputs, registers), (CODE, [5, 7], list(range(8))))
        found.clear()
        self.assertEqual(run(EXAMPLE, code, inputs, registers), wanted)
        found = run(EXAMPLE, [], inputs, registers)
        found.clear()
        self.assertEqual(registers, list(range(8)))


class TracedTest(unittest.TestCase):
    def test_the_contents_before_and_behind_each(self):
        self.assertEqual(traced(EXAMPLE, [], [5, 7]), [ZEROS])
        self.assertEqual(traced(EXAMPLE, CODE, [5, 7]), [
            ZEROS, [12, 0, 0, 0, 0, 0, 0, 0], [12, 47, 0, 0, 0, 0, 0, 0], [0, 47, 0, 0, 0, 0, 0, 0],
            [44, 47, 0, 0, 0, 0, 0, 0]])

    def test_each_is_what_the_code_so_far_leaves(self):
        for seed in range(20):
            code = some_code(LONGEST, 12, seed)
            inputs = [seed, 2, 3, 999, 5, 6]
            wanted = [run(LONGEST, code[:k], inputs, ZEROS) for k in range(13)]
            self.assertEqual(traced(LONGEST, code, inputs), wanted)

    def test_the_lists_are_new(self):
        code, inputs = list(CODE), [5, 7]
        first = traced(EXAMPLE, code, inputs)
        wanted = copy.deepcopy(first)
        for row in first:
            row.append(9)
            row[0] = 1
        self.assertEqual([row[:8] for row in first[1:]], [[1, *row[1:]] for row in wanted[1:]])
        first.clear()
        self.assertEqual(traced(EXAMPLE, code, inputs), wanted)
        self.assertEqual((code, inputs), (CODE, [5, 7]))


class InvertedTest(unittest.TestCase):
    def test_the_opposite_order_and_signs(self):
        self.assertEqual(inverted([]), [])
        self.assertEqual(inverted(CODE), [
            (0, "-", "-", "r1", "3"), (0, "+", "+", "x0", "x1"), (1, "-", "*", "r0", "r0"),
            (0, "-", "+", "x0", "x1")])

    def test_behind_the_code_it_restores_all_registers(self):
        for program, inputs in ((EXAMPLE, [5, 96]), (LONGEST, [1, 999, 0, 4, 5, 6]), (SHORTEST, [1])):
            for seed in range(20):
                code = some_code(program, 25, seed)
                registers = [(seed + 1) * k % program[0] for k in range(8)]
                behind = run(program, code, inputs, registers)
                self.assertEqual(run(program, inverted(code), inputs, behind), registers)
                self.assertEqual(run(program, code + inverted(code), inputs, registers), registers)

    def test_ahead_of_the_code_it_is_restored(self):
        for seed in range(20):
            code = some_code(EXAMPLE, 25, seed)
            registers = [96, 1, 0, 50, 2, 3, 4, seed]
            ahead = run(EXAMPLE, inverted(code), [8, 9], registers)
            self.assertEqual(run(EXAMPLE, code, [8, 9], ahead), registers)

    def test_twice_inverted_it_is_the_code(self):
        for seed in range(10):
            code = some_code(EXAMPLE, 9, seed)
            self.assertEqual(inverted(inverted(code)), code)

    def test_the_code_stays_as_it_is_and_the_list_is_new(self):
        code = list(CODE)
        first = inverted(code)
        self.assertEqual([type(first), type(first[0])], [list, tuple])
        self.assertEqual(code, CODE)
        first.clear()
        self.assertEqual(len(inverted(code)), 4)
        inverted(inverted(code)).clear()
        self.assertEqual(code, CODE)


class CancelledTest(unittest.TestCase):
    def check(self, code, wanted):
        """Check the cancelled code, and that it does the same."""
        self.assertEqual(cancelled(code), wanted)
        for registers in (ZEROS, [96, 1, 2, 3, 50, 5, 6, 7]):
            self.assertEqual(run(EXAMPLE, wanted, [5, 7], registers), run(EXAMPLE, code, [5, 7], registers))
        for before, after in zip(wanted, wanted[1:]):
            self.assertNotEqual(inverted([before]), [after])

    def test_nothing_to_cancel(self):
        self.check([], [])
        self.check(CODE, CODE)
        self.check(CODE[:1] * 3, CODE[:1] * 3)

    def test_pairs_beside_one_another(self):
        a, b, c, d = CODE
        back = inverted([a])[0]
        self.check([a, back], [])
        self.check([back, a], [])
        self.check([b, a, back, c], [b, c])
        self.check([a, back, b, c, a, d], [b, d])

    def test_pairs_within_one_another(self):
        self.check(CODE + inverted(CODE), [])
        self.check(inverted(CODE) + CODE, [])
        self.check(CODE[:2] + inverted(CODE[1:2]) + CODE[3:], [CODE[0], CODE[3]])
        self.check(CODE + inverted(CODE[1:]) + CODE[3:], [CODE[0], CODE[3]])

    def test_a_pair_that_comes_to_stand_together(self):
        a, b, _, d = CODE
        back = inverted([a])[0]
        self.check([a, b, inverted([b])[0], back, d], [d])
        self.check([b, a, a, back, back], [b])
        self.check([a, back, a], [a])
        self.check([a, back, a, back], [])
        self.check([back, a, a], [a])

    def test_instructions_that_only_seem_to_be_opposite(self):
        a = (0, "+", "+", "x0", "x1")
        for other in (
                (1, "-", "+", "x0", "x1"), (0, "+", "+", "x0", "x1"), (0, "-", "-", "x0", "x1"),
                (0, "-", "+", "x1", "x0"), (0, "-", "+", "x1", "x1"), (0, "-", "+", "x0", "x0"),
                (0, "+", "-", "x0", "x1")):
            self.check([a, other], [a, other])

    def test_pairs_with_others_between_them(self):
        a, b = CODE[0], (3, "+", "+", "1", "1")
        back = inverted([a])[0]
        self.check([a, b, back], [a, b, back])

    def test_code_of_few_instructions(self):
        a, b = CODE[0], (1, "+", "*", "x0", "x1")
        four = [a, b, *inverted([a]), *inverted([b])]
        for many in range(6):
            for code in product(four, repeat=many):
                kept = list(code)
                at = 0
                while at + 1 < len(kept):
                    if inverted([kept[at]]) == [kept[at + 1]]:
                        del kept[at:at + 2]
                        at = 0
                    else:
                        at += 1
                self.assertEqual(cancelled(list(code)), kept)

    def test_the_code_stays_as_it_is_and_the_list_is_new(self):
        code = list(CODE)
        first = cancelled(code)
        self.assertIs(type(first), list)
        first.clear()
        self.assertEqual(code, CODE)
        self.assertEqual(cancelled(code), CODE)
        code = CODE + inverted(CODE)
        cancelled(code)
        self.assertEqual(len(code), 8)


if __name__ == "__main__":
    unittest.main()
