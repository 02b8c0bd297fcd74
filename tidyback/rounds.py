"""Rounds of steps that are moved at once, the shortest schedules, and certificates of their rounds."""

from tidyback.certificates import certificate_by, flaw_by
from tidyback.lists import are_ascending_steps
from tidyback.tasks import is_possible
from tidyback.transitions import first_plans


def is_round(task, configuration, steps, registers):
    """Tell whether steps are a round that is possible in a configuration and within the registers."""
    uses, _ = task
    if not steps or not are_ascending_steps(steps, len(uses)):
        return False
    return is_possible_round(task, configuration, steps) and is_within(configuration, steps, registers)


def is_possible_round(task, configuration, steps):
    """Tell whether each step is possible in a configuration, and none is used by another one."""
    return all([
        is_possible(task, configuration, step) and not is_used(task, step, steps) for step in steps])


def is_used(task, step, others):
    """Tell whether one of the other steps uses a step."""
    uses, _ = task
    return any([step in uses[other] for other in others])


def is_within(configuration, steps, registers):
    """Tell whether the steps that are held before a round and those of the round are within the registers."""
    return len(set(configuration) | set(steps)) <= registers


def after_round(configuration, steps):
    """Return the configuration behind a round."""
    return tuple(sorted(set(configuration) ^ set(steps)))


def round_transitions(task, configuration, registers):
    """Return the list of the pairs (round, next configuration) within the registers, by ascending rounds."""
    uses, _ = task
    rounds = []
    # Those that begin with a step are this step ahead of those that were found with later steps.
    for step in reversed(range(len(uses))):
        if is_possible(task, configuration, step):
            begun = [(step, *later) for later in [(), *rounds] if not is_used(task, step, later)]
            rounds = [steps for steps in begun if is_within(configuration, steps, registers)] + rounds
    return [(steps, after_round(configuration, steps)) for steps in rounds]


def shortest_schedule(task, registers):
    """Return the schedule with the fewest rounds, of several the first one, or None."""
    _, targets = task
    schedules = first_plans(task, registers, (), round_transitions)
    if targets not in schedules:
        return None
    return list(schedules[targets])


def solves_in_rounds(task, registers, schedule):
    """Tell whether a schedule solves a task within the registers."""
    _, targets = task
    configuration = ()
    for steps in schedule:
        if not is_round(task, configuration, steps, registers):
            return False
        configuration = after_round(configuration, steps)
    return configuration == targets


def round_certificate(task, registers):
    """Return the round certificate of a task for a number of registers."""
    return certificate_by(task, registers, round_transitions)


def is_right_rounds(task, certificate):
    """Tell whether a round certificate is right."""
    return flaw_by(task, certificate, round_transitions) is None
