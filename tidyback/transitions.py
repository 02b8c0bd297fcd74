"""Transitions between configurations, and what can be reached by them."""

from tidyback.tasks import is_possible, moved


def transitions(task, configuration, registers):
    """Return the list of the pairs (step, next configuration) within the registers, by ascending steps."""
    uses, _ = task
    found = []
    for step in range(len(uses)):
        after = moved(configuration, step)
        if len(after) <= registers and is_possible(task, configuration, step):
            found.append((step, after))
    return found


def first_plans(task, registers, start, lead):
    """Return a dict that has, for each configuration that can be reached, the first of the shortest plans.

    lead is `transitions`, or a function that tells in the same way where other moves lead to. The plans
    are tuples. Shorter ones stand before longer ones, those of the same length in lexicographic order.
    """
    plans = {start: ()}
    level = [start]
    while level:
        following = []
        # Plans and moves are gone through in order, so the first plan found is the first of all.
        # A copy is gone through, since `level` becomes a name of the list that is appended to.
        for configuration in list(level):
            for move, after in lead(task, configuration, registers):
                if after not in plans:
                    plans[after] = (*plans[configuration], move)
                    following.append(after)
        level = following
    return plans
