"""Code: what is wrong with it, what it does, and plans as code and back."""

from tidyback.errors import CodeError
from tidyback.limits import INSTRUCTIONS, REGISTERS
from tidyback.operations import result_of
from tidyback.programs import task_of
from tidyback.tasks import check_plan
from tidyback.words import is_name, is_number, number_of


def check_code(program, code):
    """Raise CodeError with the first fault of code for a program."""
    for at, instruction in enumerate(code):
        if at >= INSTRUCTIONS:
            raise CodeError("too many instructions", at)
        fault = fault_of_instruction(program, instruction)
        if fault is not None:
            raise CodeError(fault, at)


def fault_of_instruction(program, instruction):
    """Return the first fault of an instruction of code for a program, or None."""
    modulus, inputs, _, _ = program
    own, _, _, left, right = instruction
    if not 0 <= own < REGISTERS:
        return "no such register"
    if not all([is_source(word, modulus, inputs) for word in (left, right)]):
        return "unknown source"
    if name_of(own) in (left, right):
        return "own register"
    return None


def is_source(word, modulus, inputs):
    """Tell whether a word is a source, in code for a program with this modulus and so many inputs."""
    if is_name(word, "x"):
        return number_of(word) < inputs
    if is_name(word, "r"):
        return number_of(word) < REGISTERS
    return is_number(word) and int(word) < modulus


def name_of(number):
    """Return the name that a register has as a source."""
    return f"r{number}"


def run(program, code, inputs, registers):
    """Return the contents of the registers behind the code."""
    modulus, _, _, _ = program
    names = [name_of(at) for at in range(len(registers))]
    led = [f"x{at}" for at in range(len(inputs))]
    values = dict(zip([*names, *led], [*registers, *inputs]))
    for number, sign, operation, left, right in code:
        first = values[left] if left in values else int(left)
        second = values[right] if right in values else int(right)
        result = result_of(operation, first, second, modulus)
        own = names[number]
        values[own] = result_of(sign, values[own], result, modulus)
    return [values[name] for name in names]


def traced(program, code, inputs):
    """Return the list of the contents before the first instruction and behind each."""
    rows = [[0] * REGISTERS]
    for instruction in code:
        rows.append(run(program, [instruction], inputs, rows[-1]))
    return rows


def opposite(instruction):
    """Return the instruction with the other sign."""
    number, sign, operation, left, right = instruction
    return number, "-" if sign == "+" else "+", operation, left, right


def inverted(code):
    """Return the code that restores what the code did."""
    return [opposite(instruction) for instruction in code[::-1]]


def cancelled(code):
    """Return the code without the pairs of instructions that take one another back."""
    kept = []
    for instruction in code:
        if kept and kept[-1] == opposite(instruction):
            kept.pop()
        else:
            kept.append(instruction)
    return kept


def flaw_of_code(program, code):
    """Return None if code is step code of a program, otherwise the pair (place, what)."""
    flaw, _, _ = followed(program, code)
    return flaw


def followed(program, code):
    """Return the flaw of code, and what its instructions do as far as they are those of step code.

    These are the list of the steps that are added and removed, and the dict of the steps that the
    registers hold behind them.
    """
    _, _, steps, outputs = program
    moves = []
    held = {}
    for at, instruction in enumerate(code):
        what = flaw_of_instruction(steps, held, instruction)
        if what is not None:
            return (at, what), moves, held
        number, sign, _, _, _ = instruction
        step = steps.index(meaning_of(instruction, held))
        moves.append(step)
        if sign == "+":
            held[number] = step
        else:
            del held[number]
    if sorted(held.values()) != list(outputs):
        return (len(code), "other outputs"), moves, held
    return None, moves, held


def flaw_of_instruction(steps, held, instruction):
    """Return why an instruction is not as step code has it, where registers hold steps, or None."""
    number, sign, _, left, right = instruction
    if sign == "+" and number in held:
        return "register holds a step"
    if sign == "-" and number not in held:
        return "register holds no step"
    if not all([number_of(word) in held for word in (left, right) if is_name(word, "r")]):
        return "source holds no step"
    meaning = meaning_of(instruction, held)
    if meaning not in steps:
        return "no such step"
    step = steps.index(meaning)
    if sign == "+" and step in list(held.values()):
        return "step is held"
    if sign == "-" and step != held[number]:
        return "register holds another step"
    return None


def meaning_of(instruction, held):
    """Return the program step that an instruction tells, where all registers that it reads hold steps."""
    _, _, operation, left, right = instruction
    return operation, operand_of(left, held), operand_of(right, held)


def operand_of(source, held):
    """Return the operand that a source stands for, where registers hold steps."""
    if is_name(source, "r"):
        return f"s{held[number_of(source)]}"
    return source


def compiled(program, plan):
    """Return step code of a plan, with the least free register for each step. Raise PlanError."""
    _, _, steps, _ = program
    check_plan(task_of(program), plan)
    places = {}
    code = []
    for move in plan:
        sign = "-" if move in places else "+"
        if sign == "+":
            places[move] = least_free(list(places.values()))
        operation, left, right = steps[move]
        code.append((places[move], sign, operation, source_of(left, places), source_of(right, places)))
        if sign == "-":
            del places[move]
    return code


def least_free(taken):
    """Return the least number that is not taken."""
    number = 0
    while number in taken:
        number += 1
    return number


def source_of(operand, places):
    """Return the source that an operand becomes, where steps are in registers."""
    if operand.startswith("s"):
        return name_of(places[number_of(operand)])
    return operand


def decompiled(program, code):
    """Return the plan that step code follows, or None for other code."""
    flaw, moves, _ = followed(program, code)
    return moves if flaw is None else None
