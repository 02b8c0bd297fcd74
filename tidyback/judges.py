"""Judges of plans, schedules and claims, and answers to questions about a program."""

from tidyback.certificates import certificate, is_right
from tidyback.code import decompiled, flaw_of_code, run
from tidyback.effects import first_difference
from tidyback.limits import REGISTERS
from tidyback.lists import is_ascending, is_whole
from tidyback.planning import shortest_plan
from tidyback.prices import cheapest_plan, is_right_price, price_certificate, price_of
from tidyback.programs import task_of
from tidyback.rounds import (
    after_round, is_possible_round, is_right_rounds, is_within, round_certificate, shortest_schedule)
from tidyback.tasks import fault_of_move, moved


def flaw_of_plan(task, registers, plan):
    """Return None if a plan solves a task within the registers, otherwise the pair (place, what)."""
    _, targets = task
    configuration = ()
    for at, move in enumerate(plan):
        fault = fault_of_move(task, registers, configuration, move)
        if fault is not None:
            return at, fault
        configuration = moved(configuration, move)
    return None if configuration == targets else (len(plan), "other targets")


def flaw_of_schedule(task, registers, schedule):
    """Return None if a schedule solves a task within the registers, otherwise the pair (place, what)."""
    _, targets = task
    configuration = ()
    for at, steps in enumerate(schedule):
        fault = fault_of_round(task, registers, configuration, steps)
        if fault is not None:
            return at, fault
        configuration = after_round(configuration, steps)
    return None if configuration == targets else (len(schedule), "other targets")


def fault_of_round(task, registers, configuration, steps):
    """Return why a tuple of integers is no round in a configuration within the registers, or None."""
    uses, _ = task
    if not steps:
        return "empty round"
    if not is_ascending(steps):
        return "not ascending"
    if not all([0 <= step < len(uses) for step in steps]):
        return "no such step"
    if not is_possible_round(task, configuration, steps):
        return "not possible"
    if not is_within(configuration, steps, registers):
        return "too many registers"
    return None


def answer(program, question):
    """Return a claim that holds and answers a question. Raise CodeError."""
    kind = question[0]
    if kind == "moves":
        return answer_moves(task_of(program), question)
    if kind == "price":
        return answer_price(task_of(program), question)
    if kind == "rounds":
        return answer_rounds(task_of(program), question)
    if kind == "code":
        return answer_code(program, question)
    return answer_same(program, question)


def answer_moves(task, question):
    """Return the claim that answers how many moves a plan needs."""
    _, registers = question
    plan = shortest_plan(task, registers)
    shown = certificate(task, registers)
    if plan is None:
        return "no moves", registers, shown
    return "moves", registers, plan, shown


def answer_price(task, question):
    """Return the claim that answers which price a plan needs."""
    _, registers, prices = question
    plan = cheapest_plan(task, registers, prices)
    shown = price_certificate(task, registers, prices)
    if plan is None:
        return "no price", registers, list(prices), shown
    return "price", registers, list(prices), plan, shown


def answer_rounds(task, question):
    """Return the claim that answers how many rounds a schedule needs."""
    _, registers = question
    schedule = shortest_schedule(task, registers)
    shown = round_certificate(task, registers)
    if schedule is None:
        return "no rounds", registers, shown
    return "rounds", registers, schedule, shown


def answer_code(program, question):
    """Return the claim that answers whether code is step code."""
    _, code = question
    flaw = flaw_of_code(program, code)
    if flaw is None:
        return "code", list(code), decompiled(program, code)
    place, what = flaw
    return "no code", list(code), place, what


def answer_same(program, question):
    """Return the claim that answers whether two codes leave the same registers. Raise CodeError."""
    _, code, other = question
    inputs = first_difference(program, code, other)
    if inputs is None:
        return "same", list(code), list(other)
    return "differ", list(code), list(other), inputs


def judge(program, claim):
    """Tell whether a claim holds. Raise CodeError."""
    if claim[0] in ("code", "no code", "same", "differ"):
        return holds_of_code(program, claim)
    return holds_of_task(task_of(program), claim)


def judge_all(program, claims):
    """Return the list of the indices of the claims that do not hold. Raise CodeError."""
    return [at for at, claim in enumerate(claims) if not judge(program, claim)]


def holds_of_task(task, claim):
    """Tell whether a claim about the moves, the price or the rounds of plans holds."""
    kind = claim[0]
    if kind == "moves":
        return holds_moves(task, claim)
    if kind == "price":
        return holds_price(task, claim)
    if kind == "rounds":
        return holds_rounds(task, claim)
    if kind == "no price":
        _, registers, prices, shown = claim
        return shown[:2] == (registers, None) and is_right_price(task, prices, shown)
    _, registers, shown = claim
    if kind == "no moves":
        return shown[:2] == (registers, None) and is_right(task, shown)
    return shown[:2] == (registers, None) and is_right_rounds(task, shown)


def holds_moves(task, claim):
    """Tell whether a claim that a plan has the fewest moves holds."""
    _, registers, plan, shown = claim
    if flaw_of_plan(task, registers, plan) is not None:
        return False
    return shown[:2] == (registers, len(plan)) and is_right(task, shown)


def holds_price(task, claim):
    """Tell whether a claim that a plan has the least price holds."""
    _, registers, prices, plan, shown = claim
    if flaw_of_plan(task, registers, plan) is not None:
        return False
    return shown[:2] == (registers, price_of(prices, plan)) and is_right_price(task, prices, shown)


def holds_rounds(task, claim):
    """Tell whether a claim that a schedule has the fewest rounds holds."""
    _, registers, schedule, shown = claim
    if flaw_of_schedule(task, registers, schedule) is not None:
        return False
    return shown[:2] == (registers, len(schedule)) and is_right_rounds(task, shown)


def holds_of_code(program, claim):
    """Tell whether a claim about code holds. Raise CodeError."""
    if claim[0] == "code":
        _, code, plan = claim
        return flaw_of_code(program, code) is None and decompiled(program, code) == plan
    if claim[0] == "no code":
        _, code, place, what = claim
        return flaw_of_code(program, code) == (place, what)
    if claim[0] == "same":
        _, code, other = claim
        return first_difference(program, code, other) is None
    _, code, other, inputs = claim
    return are_inputs(program, inputs) and leave_other_registers(program, code, other, inputs)


def are_inputs(program, inputs):
    """Tell whether a value is a list of inputs of a program."""
    modulus, many, _, _ = program
    if not isinstance(inputs, list) or len(inputs) != many:
        return False
    return all([is_whole(value) and 0 <= value < modulus for value in inputs])


def leave_other_registers(program, code, other, inputs):
    """Tell whether two codes leave different registers for these inputs."""
    zeros = [0] * REGISTERS
    return run(program, code, inputs, zeros) != run(program, other, inputs, zeros)
