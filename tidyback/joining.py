"""Two programs joined to one, and plans for both joined to a plan for it."""

from tidyback.errors import JoinError
from tidyback.limits import INPUTS, MOVES, STEPS
from tidyback.programs import task_of
from tidyback.tasks import check_plan
from tidyback.words import number_of


def joined(first, second, links, *, keep=False):
    """Return the joined program of two programs. Raise JoinError."""
    modulus, inputs, _, outputs = first
    _, _, _, others = second
    check_links(first, second, links)
    steps, became = joined_steps(first, second, links)
    ends = [became[output] for output in others]
    if keep:
        ends.extend(outputs)
    return modulus, inputs + links.count(None), tuple(steps), tuple(sorted(set(ends)))


def check_links(first, second, links):
    """Raise JoinError if the links do not make a joined program."""
    modulus, inputs, _, outputs = first
    other, _, _, _ = second
    if modulus != other:
        raise JoinError("other modulus", -1)
    for at, link in enumerate(links):
        if link is not None and link not in outputs:
            raise JoinError("wrong link", at)
    if inputs + links.count(None) > INPUTS:
        raise JoinError("too many inputs", -1)
    steps, _ = joined_steps(first, second, links)
    if len(steps) > STEPS:
        raise JoinError("too many steps", -1)


def joined_steps(first, second, links):
    """Return the list of the steps of the joined program, and that of what the second ones become."""
    _, inputs, before, _ = first
    _, _, behind, _ = second
    names = names_of_inputs(inputs, links)
    steps = list(before)
    became = []
    for operation, left, right in behind:
        step = (operation, led(left, names, became), led(right, names, became))
        if step not in steps:
            steps.append(step)
        became.append(steps.index(step))
    return steps, became


def names_of_inputs(inputs, links):
    """Return what the inputs of a second program become behind a first one with so many inputs."""
    names = []
    for link in links:
        if link is None:
            names.append(f"x{inputs}")
            inputs += 1
        else:
            names.append(f"s{link}")
    return names


def led(operand, names, became):
    """Return what an operand of the second program becomes, for what its inputs and steps become."""
    if operand.startswith("x"):
        return names[number_of(operand)]
    if operand.startswith("s"):
        return f"s{became[number_of(operand)]}"
    return operand


def joined_plan(first, second, links, plan, other, *, keep=False):
    """Return the joined plan of a plan for each of two programs. Raise PlanError and JoinError."""
    check_plan(task_of(first), plan)
    check_plan(task_of(second), other)
    check_links(first, second, links)
    _, _, before, _ = first
    _, _, behind, _ = second
    steps, became = joined_steps(first, second, links)
    if len(steps) < len(before) + len(behind):
        raise JoinError("shared steps", -1)
    back = [] if keep else plan[::-1]
    moves = [*plan, *[became[move] for move in other], *back]
    if len(moves) > MOVES:
        raise JoinError("too many moves", -1)
    return moves
