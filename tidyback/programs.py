"""Programs: their texts, the values of their steps, and their tasks."""

from tidyback.errors import ProgramError
from tidyback.limits import INPUTS, MODULUS, STEPS
from tidyback.lists import is_ascending
from tidyback.operations import OPERATIONS, result_of
from tidyback.words import is_name, is_number, number_of


def read_program(text):
    """Return the program that a text tells. Raise ProgramError."""
    lines = lines_of(text)
    modulus = read_header(lines, 0, "mod", 2, MODULUS)
    inputs = read_header(lines, 1, "inputs", 1, INPUTS)
    steps = []
    outputs = None
    for at in range(2, len(lines)):
        words = lines[at].split(" ")
        fault = fault_of_line(words, (modulus, inputs, steps, outputs))
        if fault is not None:
            raise ProgramError(at + 1, fault)
        if words[0] == "return":
            outputs = tuple([number_of(word) for word in words[1:]])
        else:
            steps.append(step_of(words))
    if outputs is None:
        raise ProgramError(len(lines) + 1, "expected return")
    return modulus, inputs, tuple(steps), outputs


def lines_of(text):
    """Return the lines of a text; what stands behind the last newline is one unless it is empty."""
    lines = text.split("\n")
    if lines[-1] == "":
        lines.pop()
    return lines


def read_header(lines, at, word, least, most):
    """Return the number behind the word in the line at this index. Raise ProgramError."""
    words = lines[at].split(" ") if at < len(lines) else []
    if len(words) == 2 and words[0] == word and is_number(words[1]):
        number = int(words[1])
        if least <= number <= most:
            return number
    raise ProgramError(at + 1, f"expected {word}")


def fault_of_line(words, program):
    """Return the first fault of a line behind the program that was read so far, or None.

    Its outputs are None as long as there was no line `return`.
    """
    modulus, inputs, steps, outputs = program
    if outputs is not None:
        return "text behind return"
    if words[0] == "return":
        return fault_of_return(words[1:], len(steps))
    return fault_of_step(words, modulus, inputs, steps)


def fault_of_step(words, modulus, inputs, steps):
    """Return the first fault of a line that has to tell the step behind these steps, or None."""
    if not is_like_step(words):
        return "not understood"
    if len(steps) >= STEPS:
        return "too many steps"
    if number_of(words[0]) != len(steps):
        return "wrong name"
    step = step_of(words)
    if not all([is_operand(word, modulus, inputs, len(steps)) for word in step[1:]]):
        return "unknown operand"
    if step in steps:
        return "same step"
    return None


def is_like_step(words):
    """Tell whether words have the form `sI = LEFT OPERATION RIGHT`."""
    if len(words) != 5:
        return False
    name, sign, left, operation, right = words
    if not is_name(name, "s") or sign != "=" or operation not in OPERATIONS:
        return False
    return is_like_operand(left) and is_like_operand(right)


def is_like_operand(word):
    """Tell whether a word has the form of an operand of any step of any program."""
    return is_number(word) or is_name(word, "x") or is_name(word, "s")


def is_operand(word, modulus, inputs, earlier):
    """Tell whether a word of the form of an operand is one of a step with so many earlier ones."""
    if word.startswith("x"):
        return number_of(word) < inputs
    if word.startswith("s"):
        return number_of(word) < earlier
    return int(word) < modulus


def step_of(words):
    """Return the program step that the words of its line tell."""
    _, _, left, operation, right = words
    return operation, left, right


def fault_of_return(names, steps):
    """Return the first fault of the words behind `return`, in a program with so many steps, or None."""
    if not all([is_name(name, "s") for name in names]):
        return "not understood"
    if not names:
        return "no outputs"
    outputs = [number_of(name) for name in names]
    if max(outputs) >= steps:
        return "unknown output"
    if not is_ascending(outputs):
        return "not ascending"
    return None


def format_program(program):
    """Return the text of a program."""
    modulus, inputs, steps, outputs = program
    lines = [f"mod {modulus}", f"inputs {inputs}"]
    for at, (operation, left, right) in enumerate(steps):
        lines.append(f"s{at} = {left} {operation} {right}")
    names = " ".join([f"s{output}" for output in outputs])
    lines.append(f"return {names}")
    return "\n".join(lines) + "\n"


def evaluate(program, inputs):
    """Return the list of the values of all steps for these inputs."""
    modulus, _, steps, _ = program
    values = []
    for operation, left, right in steps:
        first = value_of(left, inputs, values)
        second = value_of(right, inputs, values)
        values.append(result_of(operation, first, second, modulus))
    return values


def value_of(operand, inputs, values):
    """Return the value of an operand, for the inputs and the values of the earlier steps."""
    if operand.startswith("x"):
        return inputs[number_of(operand)]
    if operand.startswith("s"):
        return values[number_of(operand)]
    return int(operand)


def task_of(program):
    """Return the task of a program: what each step uses, and the outputs as targets."""
    _, _, steps, outputs = program
    return tuple([used_by(step) for step in steps]), outputs


def used_by(step):
    """Return the tuple of the steps that are operands of a step, each once, ascending."""
    _, left, right = step
    return tuple(sorted({number_of(word) for word in (left, right) if word.startswith("s")}))
