"""[27] and [28]: codes that differ, and code that is tidy."""

import unittest
from itertools import product

from samples import ALL_RETURNED, EXAMPLE, LONGEST, SHORTEST
from tidyback.code import compiled, inverted, run
from tidyback.effects import first_difference, first_untidy, places_of
from tidyback.errors import CodeError
from tidyback.planning import shortest_plan
from tidyback.programs import evaluate, task_of

ZEROS = [0] * 8
PLAN = [0, 1, 0, 2, 3, 2, 0, 1, 0]
SMALL = (7, *EXAMPLE[1:])
LONGEST_SMALL = (2, *LONGEST[1:])
CODE = compiled(SMALL, PLAN)
# The number of all inputs, and one that is beyond the limit.
JUST_ENOUGH = ((4, 6), (8, 4), (16, 3), (64, 2), (1000, 1), (2, 6))
TOO_MANY = ((5, 6), (6, 5), (9, 4), (17, 3), (65, 2), (1000, 2), (1000, 6))


def program_with(modulus, inputs):
    """Return a program that adds its first and its last input."""
    return modulus, inputs, (("+", "x0", f"x{inputs - 1}"),), (0,)


def fault(function, *passed):
    """Return the pair (what, place) of the CodeError that a call raises, or None."""
    try:
        function(*passed)
    except CodeError as error:
        return error.what, error.place
    return None


def difference(program, code, other):
    """Return the first inputs for which two codes differ, of all of them."""
    for inputs in product(range(program[0]), repeat=program[1]):
        if run(program, code, list(inputs), ZEROS) != run(program, other, list(inputs), ZEROS):
            return list(inputs)
    return None


class FirstDifferenceTest(unittest.TestCase):
    def check(self, program, code, other, wanted):
        self.assertEqual(difference(program, code, other), wanted)
        self.assertEqual(first_difference(program, code, other), wanted)
        self.assertEqual(first_difference(program, other, code), wanted)

    def test_codes_that_differ_at_the_first_inputs(self):
        self.check(SMALL, [], [(0, "+", "+", "1", "0")], [0, 0])
        self.check(SMALL, [(3, "+", "+", "x0", "1")], [(4, "+", "+", "x0", "1")], [0, 0])
        self.check(SHORTEST, [(0, "+", "+", "1", "0")], [(0, "+", "*", "1", "0")], [0])

    def test_codes_that_differ_at_later_inputs(self):
        self.check(SMALL, [], [(0, "+", "+", "x0", "0")], [1, 0])
        self.check(SMALL, [], [(0, "+", "+", "x1", "0")], [0, 1])
        self.check(SMALL, [], [(0, "+", "*", "x0", "x1")], [1, 1])
        self.check(SMALL, [(0, "+", "+", "x0", "x0")], [(0, "+", "*", "x0", "x0")], [1, 0])
        self.check(LONGEST_SMALL, [], [(0, "+", "*", "x2", "x5")], [0, 0, 1, 0, 0, 1])

    def test_codes_that_differ_at_the_last_inputs_alone(self):
        # Mod 2, the product of all inputs is 0 but for the last ones.
        program = (2, 6, (("+", "x0", "x1"),), (0,))
        code = [(0, "+", "*", "x0", "x1")]
        for number in range(1, 5):
            code.append((number, "+", "*", f"r{number - 1}", f"x{number + 1}"))
        code += inverted(code[:-1])
        self.check(program, code, [], [1] * 6)

    def test_codes_that_do_not_differ(self):
        self.check(SMALL, [], [], None)
        self.check(SMALL, CODE, list(CODE), None)
        self.check(SMALL, CODE + inverted(CODE), [], None)
        self.check(SMALL, [(0, "+", "+", "x0", "x1")], [(0, "+", "+", "x1", "x0")], None)
        self.check(SMALL, [(0, "+", "+", "x0", "0")], [(0, "+", "-", "x0", "0")], None)
        self.check(SMALL, [(0, "+", "*", "x0", "6")], [(0, "-", "*", "x0", "1")], None)

    def test_all_eight_registers_count(self):
        for number in range(8):
            self.check(SMALL, [], [(number, "+", "+", "x0", "x0")], [1, 0])

    def test_as_many_inputs_as_there_may_be(self):
        for modulus, inputs in JUST_ENOUGH:
            program = program_with(modulus, inputs)
            self.assertIsNone(first_difference(program, [], []))
            last = f"x{inputs - 1}"
            found = first_difference(program, [], [(0, "+", "+", last, "0")])
            self.assertEqual(found, [0] * (inputs - 1) + [1])

    def test_too_many_inputs(self):
        for modulus, inputs in TOO_MANY:
            program = program_with(modulus, inputs)
            self.assertEqual(fault(first_difference, program, [], []), ("too many inputs", -1))
            # Ahead of all else, also if the first inputs show a difference.
            self.assertEqual(
                fault(first_difference, program, [], [(0, "+", "+", "1", "0")]), ("too many inputs", -1))

    def test_what_is_passed_stays_as_it_is_and_the_list_is_new(self):
        code, other = [(0, "+", "+", "x0", "0")], []
        first = first_difference(SMALL, code, other)
        self.assertIs(type(first), list)
        first.clear()
        self.assertEqual(first_difference(SMALL, code, other), [1, 0])
        self.assertEqual((code, other), ([(0, "+", "+", "x0", "0")], []))


class PlacesTest(unittest.TestCase):
    def test_step_code(self):
        self.assertEqual(places_of(SMALL, CODE), ((3, 2),))
        self.assertEqual(places_of(SHORTEST, [(7, "+", "-", "0", "1")]), ((0, 7),))
        self.assertEqual(places_of(ALL_RETURNED, compiled(ALL_RETURNED, [1, 0, 2])), ((0, 1), (1, 0), (2, 2)))
        self.assertEqual(places_of(EXAMPLE, compiled(EXAMPLE, PLAN)), ((3, 2),))

    def test_the_outputs_stand_in_their_order(self):
        program = (97, 2, EXAMPLE[2], (0, 2, 3))
        self.assertEqual(places_of(program, [
            (6, "+", "+", "x0", "x1"), (5, "+", "*", "r6", "r6"), (4, "+", "-", "r5", "3"),
            (0, "+", "*", "r4", "x0"), (5, "-", "*", "r6", "r6")]), ((0, 6), (2, 4), (3, 0)))

    def test_where_the_outputs_are_in_the_end(self):
        first = (0, "+", "-", "0", "1")
        self.assertEqual(places_of(SHORTEST, [first, *inverted([first]), (5, *first[1:])]), ((0, 5),))

    def test_other_code(self):
        self.assertIsNone(places_of(SMALL, []))
        self.assertIsNone(places_of(SMALL, CODE[:-1]))
        self.assertIsNone(places_of(SMALL, CODE[1:]))
        self.assertIsNone(places_of(SMALL, [*CODE, (4, "+", "-", "x0", "x0")]))

    def test_the_kinds(self):
        found = places_of(ALL_RETURNED, compiled(ALL_RETURNED, [0, 1, 2]))
        self.assertEqual([type(found), type(found[0])], [tuple, tuple])

    def test_the_code_stays_as_it_is(self):
        code = list(CODE)
        places_of(SMALL, code)
        self.assertEqual(code, CODE)


class FirstUntidyTest(unittest.TestCase):
    def check(self, program, code, places, wanted):
        """Check the first inputs for which code is not tidy, and go through all of them."""
        first = None
        for inputs in product(range(program[0]), repeat=program[1]):
            values = evaluate(program, list(inputs))
            numbers = {number: values[output] for output, number in places}
            tidy = [numbers.get(number, 0) for number in range(8)]
            if first is None and run(program, code, list(inputs), ZEROS) != tidy:
                first = list(inputs)
        self.assertEqual(first, wanted)
        self.assertEqual(first_untidy(program, code, places), wanted)

    def test_step_code_is_tidy_for_its_places(self):
        for program in (SMALL, SHORTEST, LONGEST_SMALL, ALL_RETURNED):
            for registers in range(1, 9):
                plan = shortest_plan(task_of(program), registers)
                if plan is not None:
                    code = compiled(program, plan)
                    self.check(program, code, places_of(program, code), None)

    def test_other_code_may_be_tidy(self):
        # Mod 2, twice the input is 0, and so is the output: nothing has to be done.
        twice = (2, 1, (("+", "x0", "x0"), ("*", "s0", "x0")), (1,))
        self.check(twice, [], ((1, 4),), None)
        self.check(SMALL, CODE + CODE + inverted(CODE), ((3, 2),), None)

    def test_another_place(self):
        # The output is (0 + 1) ** 2 - 3, times 1, at the inputs 1 and 0.
        self.check(SMALL, CODE, ((3, 1),), [1, 0])
        self.check(SMALL, CODE, ((3, 7),), [1, 0])

    def test_what_is_left_in_a_register_that_is_no_place(self):
        self.check(SMALL, CODE[:-1], ((3, 2),), [0, 1])
        self.check(SMALL, [*CODE, (7, "+", "+", "1", "0")], ((3, 2),), [0, 0])
        self.check(SMALL, [*CODE, (7, "+", "*", "x0", "x1")], ((3, 2),), [1, 1])
        self.check(SMALL, [*CODE, (0, "+", "*", "r2", "r2")], ((3, 2),), [1, 0])

    def test_another_value_in_a_place(self):
        self.check(SMALL, [*CODE, (2, "+", "+", "1", "0")], ((3, 2),), [0, 0])
        self.check(SMALL, [*CODE, (2, "-", "*", "x0", "x1")], ((3, 2),), [1, 1])
        self.check(SMALL, [], ((3, 2),), [1, 0])

    def test_several_places(self):
        code = compiled(ALL_RETURNED, [0, 1, 2])
        self.check(ALL_RETURNED, code, ((0, 0), (1, 1), (2, 2)), None)
        # Both sums are equal, so that their places may be exchanged, and the difference is 0.
        self.check(ALL_RETURNED, code, ((0, 1), (1, 0), (2, 5)), None)
        self.check(ALL_RETURNED, code, ((0, 1), (1, 2), (2, 0)), [0])
        self.check(ALL_RETURNED, code[:1], ((0, 0), (1, 1), (2, 2)), [0])
        self.check(ALL_RETURNED, [(0, "+", "+", "x0", "9"), (1, "+", "*", "x0", "9")], ((0, 0), (1, 1), (2, 2)), [0])

    def test_as_many_inputs_as_there_may_be(self):
        for modulus, inputs in JUST_ENOUGH:
            program = program_with(modulus, inputs)
            code = compiled(program, [0])
            self.assertIsNone(first_untidy(program, code, ((0, 0),)))

    def test_too_many_inputs(self):
        for modulus, inputs in TOO_MANY:
            program = program_with(modulus, inputs)
            self.assertEqual(
                fault(first_untidy, program, compiled(program, [0]), ((0, 0),)), ("too many inputs", -1))
            self.assertEqual(
                fault(first_untidy, program, [(0, "+", "+", "1", "0")], ((0, 3),)), ("too many inputs", -1))

    def test_what_is_passed_stays_as_it_is_and_the_list_is_new(self):
        code = CODE[:-1]
        first = first_untidy(SMALL, code, ((3, 2),))
        self.assertIs(type(first), list)
        first.clear()
        self.assertEqual(first_untidy(SMALL, code, ((3, 2),)), [0, 1])
        self.assertEqual(code, CODE[:-1])


if __name__ == "__main__":
    unittest.main()
