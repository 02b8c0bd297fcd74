"""What code does for all inputs: whether two codes differ, and whether code is tidy."""

from tidyback.code import followed, run
from tidyback.errors import CodeError
from tidyback.limits import ALL_INPUTS, REGISTERS
from tidyback.programs import evaluate


def first_difference(program, code, other):
    """Return the first inputs for which two codes leave different registers, or None. Raise CodeError."""
    zeros = [0] * REGISTERS
    for inputs in all_inputs(program):
        if run(program, code, inputs, zeros) != run(program, other, inputs, zeros):
            return inputs
    return None


def all_inputs(program):
    """Return the list of all inputs of a program, in lexicographic order. Raise CodeError."""
    modulus, inputs, _, _ = program
    rows = [[]]
    for _ in range(inputs):
        # There are never fewer rows with further inputs, so the rows that are too many are not made.
        if len(rows) * modulus > ALL_INPUTS:
            raise CodeError("too many inputs", -1)
        rows = [[*row, value] for row in rows for value in range(modulus)]
    return rows


def places_of(program, code):
    """Return the pairs (output, register) of what step code leaves, or None for other code."""
    _, _, _, outputs = program
    flaw, _, held = followed(program, code)
    if flaw is not None:
        return None
    places = {step: number for number, step in held.items()}
    return tuple([(output, places[output]) for output in outputs])


def first_untidy(program, code, places):
    """Return the first inputs for which code is not tidy for the places, or None. Raise CodeError."""
    zeros = [0] * REGISTERS
    for inputs in all_inputs(program):
        if run(program, code, inputs, zeros) != tidy_contents(program, inputs, places):
            return inputs
    return None


def tidy_contents(program, inputs, places):
    """Return the contents with the values of the outputs in their places, and 0 in all others."""
    values = evaluate(program, inputs)
    contents = [0] * REGISTERS
    for output, number in places:
        contents[number] = values[output]
    return contents
