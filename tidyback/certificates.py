"""Certificates that no plan has fewer moves, or that there is no plan."""

from tidyback.transitions import first_plans, transitions


def certificate(task, registers):
    """Return the certificate of a task for a number of registers."""
    return certificate_by(task, registers, transitions)


def certificate_by(task, registers, lead):
    """Return the certificate of a task, where lead tells where its moves lead to (`first_plans`)."""
    _, targets = task
    plans = first_plans(task, registers, (), lead)
    levels = levels_of(plans)
    if targets not in plans:
        return registers, None, tuple(levels)
    moves = len(plans[targets])
    return registers, moves, tuple(levels[:moves])


def levels_of(plans):
    """Return the levels of configurations with first plans of 0, 1, 2 and so on moves, each sorted."""
    levels = []
    for configuration, plan in plans.items():
        if len(plan) == len(levels):
            levels.append([])
        levels[-1].append(configuration)
    return [tuple(sorted(level)) for level in levels]


def is_right(task, certificate):
    """Tell whether a certificate is right."""
    return flaw(task, certificate) is None


def flaw(task, certificate):
    """Return the first flaw of a certificate as a tuple, or None if it is right."""
    return flaw_by(task, certificate, transitions)


def flaw_by(task, certificate, lead):
    """Return the flaw of a certificate, where lead tells where its moves lead to (`first_plans`)."""
    _, targets = task
    _, moves, levels = certificate
    if not levels or () not in levels[0]:
        return ("start",)
    if moves is not None and moves != len(levels):
        return ("count",)
    for at, level in enumerate(levels):
        if targets in level:
            return ("target", at)
    return flaw_of_steps(task, certificate, lead)


def flaw_of_steps(task, certificate, lead):
    """Return the flaw of the first transition that does not lead to where it has to, or None."""
    registers, moves, levels = certificate
    first = first_levels(levels)
    checked = levels if moves is None else levels[:-1]
    for at, level in enumerate(checked):
        for configuration in level:
            # A later level allows more, so what was right in the first one need not be seen again.
            if first[configuration] == at:
                step = wrong_step(lead(task, configuration, registers), first, at + 1)
                if step is not None:
                    return ("step", at, configuration, step)
    return None


def first_levels(levels):
    """Return a dict that has, for each configuration, the number of the first level with it."""
    first = {}
    for at, level in enumerate(levels):
        for configuration in level:
            if configuration not in first:
                first[configuration] = at
    return first


def wrong_step(pairs, first, last):
    """Return the step of the first transition to a configuration in none of the levels up to last, or None."""
    for step, after in pairs:
        if after not in first or first[after] > last:
            return step
    return None
