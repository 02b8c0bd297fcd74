"""Plans with the fewest moves, and the registers that they need."""

from tidyback.transitions import first_plans, transitions


def shortest_plan(task, registers, *, start=(), goal=None):
    """Return the shortest plan from a configuration to another one, or None."""
    if goal is None:
        _, goal = task
    if len(start) > registers:
        return None
    plans = first_plans(task, registers, start, transitions)
    if goal not in plans:
        return None
    return list(plans[goal])


def fewest_registers(task):
    """Return the least number of registers within which some plan solves the task."""
    registers = 1
    while shortest_plan(task, registers) is None:
        registers += 1
    return registers


def tradeoff(task):
    """Return the pairs (registers, moves) where no smaller number of registers has as few moves."""
    uses, _ = task
    pairs = []
    # No configuration has more steps than the task, so further registers never help.
    for registers in range(1, len(uses) + 1):
        plan = shortest_plan(task, registers)
        if plan is not None and (not pairs or len(plan) < pairs[-1][1]):
            pairs.append((registers, len(plan)))
    return pairs
