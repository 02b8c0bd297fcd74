"""Prices of plans, cheapest plans, and certificates that no plan is cheaper."""

from heapq import heappop, heappush

from tidyback.transitions import transitions


def price_of(prices, plan):
    """Return the sum of the prices of the moves of a plan."""
    return sum([prices[move] for move in plan])


def cheapest_plan(task, registers, prices):
    """Return the cheapest plan within the registers that solves the task, or None."""
    _, targets = task
    plans = cheapest_plans(task, registers, prices)
    if targets not in plans:
        return None
    return list(plans[targets])


def cheapest_plans(task, registers, prices):
    """Return a dict that has, for each configuration that can be reached, the cheapest plan, a tuple."""
    plans = {}
    # Entries are taken by price, then number of moves, then lexicographic order of the plans.
    queue = [(0, 0, (), ())]
    while queue:
        price, moves, plan, configuration = heappop(queue)
        if configuration not in plans:
            plans[configuration] = plan
            for step, after in transitions(task, configuration, registers):
                heappush(queue, (price + prices[step], moves + 1, (*plan, step), after))
    return plans


def price_certificate(task, registers, prices):
    """Return the price certificate of a task for a number of registers and prices."""
    _, targets = task
    plans = cheapest_plans(task, registers, prices)
    least = {configuration: price_of(prices, plan) for configuration, plan in plans.items()}
    price = least[targets] if targets in least else None
    bounds = []
    for configuration in bounded(task, registers, least, price):
        own = least[configuration]
        bounds.append((configuration, own if price is None else min(own, price)))
    return registers, price, tuple(bounds)


def bounded(task, registers, least, price):
    """Return the sorted list of the configurations that a price certificate with this price has.

    least has the least price of each configuration that can be reached.
    """
    found = set()
    found.add(())
    for configuration, own in least.items():
        if price is None or own < price:
            for _, after in transitions(task, configuration, registers):
                found.add(after)
    return sorted(found)


def is_right_price(task, prices, certificate):
    """Tell whether a price certificate is right for a task and prices."""
    _, targets = task
    registers, price, pairs = certificate
    bounds = {configuration: bound for configuration, bound in pairs}
    if () not in bounds or bounds[()] != 0:
        return False
    if targets in bounds and (price is None or bounds[targets] < price):
        return False
    for configuration, bound in pairs:
        if price is None or bound < price:
            led = transitions(task, configuration, registers)
            if not are_bounded(led, bounds, bound, prices):
                return False
    return True


def are_bounded(pairs, bounds, bound, prices):
    """Tell whether each transition leads to a bound of at most this one plus the price of its step."""
    return all([after in bounds and bounds[after] <= bound + prices[step] for step, after in pairs])
