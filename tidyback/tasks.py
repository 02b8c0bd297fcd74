"""Tasks, and the configurations that plans for them lead through."""

from tidyback.errors import PlanError, TaskError
from tidyback.limits import STEPS
from tidyback.lists import are_ascending_steps


def task(uses, targets):
    """Return the task of a list of lists of steps and a list of targets. Raise TaskError."""
    check_uses(uses)
    check_targets(targets, len(uses))
    return tuple([tuple(used) for used in uses]), tuple(targets)


def check_uses(uses):
    """Raise TaskError if the lists are not those of the steps of a task."""
    if not uses:
        raise TaskError("no steps", -1)
    if len(uses) > STEPS:
        raise TaskError("too many steps", -1)
    for step, used in enumerate(uses):
        if not are_ascending_steps(used, step):
            raise TaskError("wrong use", step)


def check_targets(targets, steps):
    """Raise TaskError if the list is not that of the targets of a task with so many steps."""
    if not targets:
        raise TaskError("no targets", -1)
    least = 0
    for at, target in enumerate(targets):
        if not least <= target < steps:
            raise TaskError("wrong target", at)
        least = target + 1


def needed(task):
    """Return the tuple of the targets and whatever a needed step uses, ascending."""
    uses, targets = task
    found = set()
    for target in targets:
        found.add(target)
    # A step uses earlier ones only, so whatever needs a step is seen before the step itself.
    for step in reversed(range(len(uses))):
        if step in found:
            for used in uses[step]:
                found.add(used)
    return tuple(sorted(found))


def is_possible(task, configuration, move):
    """Tell whether the configuration holds all steps that the move uses."""
    uses, _ = task
    return all([used in configuration for used in uses[move]])


def moved(configuration, move):
    """Return the configuration behind a move that is possible."""
    if move in configuration:
        return tuple([step for step in configuration if step != move])
    return tuple(sorted([*configuration, move]))


def fault_of_move(task, registers, configuration, move):
    """Return why a move, any integer, cannot be made in a configuration within the registers, or None."""
    uses, _ = task
    if not 0 <= move < len(uses):
        return "no such step"
    if not is_possible(task, configuration, move):
        return "not possible"
    if len(moved(configuration, move)) > registers:
        return "too many registers"
    return None


def walk(task, plan, *, start=()):
    """Return the list of all configurations of a plan, from start to the last one. Raise PlanError."""
    configurations = [start]
    for at, move in enumerate(plan):
        if not is_possible(task, configurations[-1], move):
            raise PlanError("not possible", at)
        configurations.append(moved(configurations[-1], move))
    return configurations


def look(task, plan):
    """Return the last configuration of a plan, its peak, and whether it solves the task. Raise PlanError."""
    _, targets = task
    configurations = walk(task, plan)
    last = configurations[-1]
    peak = max([len(configuration) for configuration in configurations])
    return last, peak, last == targets


def check_plan(task, plan):
    """Raise PlanError if a plan is not valid, or does not solve the task."""
    _, _, solves = look(task, plan)
    if not solves:
        raise PlanError("other targets", -1)
