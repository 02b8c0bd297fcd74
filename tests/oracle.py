"""What the document tells of plans and certificates, worked out in another way than the program does.

Configurations are numbers here, with the bit 2 ** step for each step that is held.
"""

from itertools import combinations


def all_tasks(steps):
    """Return all tasks with so many steps."""
    uses = [()]
    for step in range(steps):
        uses = [(*some, used) for some in uses for used in subsets(step)]
    return [(used, targets) for used in uses for targets in subsets(steps) if targets]


def subsets(steps):
    """Return all tuples of ascending steps, if there are so many steps."""
    return [chosen for many in range(steps + 1) for chosen in combinations(range(steps), many)]


def number_of(configuration):
    return sum(2 ** step for step in configuration)


def configuration_of(number):
    return tuple(step for step in range(number.bit_length()) if number >> step & 1)


def edges(task, registers):
    """Return, for each number, the dict of the steps of its transitions and the numbers behind them."""
    uses, _ = task
    found = []
    for number in range(2 ** len(uses)):
        led = {}
        for step, used in enumerate(uses):
            after = number ^ 2 ** step
            if all(number >> k & 1 for k in used) and after.bit_count() <= registers:
                led[step] = after
        found.append(led)
    return found


def distances(task, registers, prices, goal):
    """Return a dict of the least pair (price, moves) that leads from a number to the goal, where one does."""
    graph = edges(task, registers)
    least = {goal: (0, 0)}
    changed = True
    while changed:
        changed = False
        for number, led in enumerate(graph):
            for step, after in led.items():
                if after in least:
                    price, moves = least[after]
                    pair = (price + prices[step], moves + 1)
                    if number not in least or pair < least[number]:
                        least[number] = pair
                        changed = True
    return least


def best_plan(task, registers, prices, start=(), goal=None):
    """Return the cheapest plan, of several a shortest one, of these the first one, or None."""
    at = number_of(start)
    least = distances(task, registers, prices, number_of(task[1] if goal is None else goal))
    if len(start) > registers or at not in least:
        return None
    graph = edges(task, registers)
    plan = []
    while least[at] != (0, 0):
        price, moves = least[at]
        step = min(
            step for step, after in graph[at].items()
            if least.get(after) == (price - prices[step], moves - 1))
        plan.append(step)
        at = graph[at][step]
    return plan


def shortest(task, registers, start=(), goal=None):
    return best_plan(task, registers, [0] * len(task[0]), start, goal)


def round_edges(task, registers):
    """Return, for each number, the dict of the rounds of its transitions and the numbers behind them."""
    uses, _ = task
    used = [number_of(some) for some in uses]
    found = []
    for number in range(2 ** len(uses)):
        led = {}
        for chosen in range(1, 2 ** len(uses)):
            steps = configuration_of(chosen)
            held = all(used[step] & number == used[step] for step in steps)
            apart = all(used[step] & chosen == 0 for step in steps)
            if held and apart and (number | chosen).bit_count() <= registers:
                led[steps] = number ^ chosen
        found.append(led)
    return found


def shortest_rounds(task, registers):
    """Return the first one of the schedules with the fewest rounds, or None."""
    graph = round_edges(task, registers)
    goal = number_of(task[1])
    left = {goal: 0}
    changed = True
    while changed:
        changed = False
        for number, led in enumerate(graph):
            least = min((left[after] + 1 for after in led.values() if after in left), default=None)
            if least is not None and least < left.get(number, 999):
                left[number] = least
                changed = True
    if 0 not in left:
        return None
    schedule, at = [], 0
    while at != goal:
        steps = min(steps for steps, after in graph[at].items() if left.get(after) == left[at] - 1)
        schedule.append(steps)
        at = graph[at][steps]
    return schedule


def levels_of(task, registers, graph_of, best):
    """Return the levels of the certificate of a task, where best is a shortest plan or schedule, or None."""
    graph = graph_of(task, registers)
    level, seen, levels = {0}, {0}, []
    while level and (best is None or len(levels) < len(best)):
        levels.append(tuple(sorted(map(configuration_of, level))))
        level = {after for number in level for after in graph[number].values()} - seen
        seen |= level
    return tuple(levels)


def flaw(task, certificate, graph_of=edges):
    """Return the flaw of a certificate, by the words of the document."""
    registers, moves, levels = certificate
    if () not in levels[0]:
        return ("start",)
    if moves not in (None, len(levels)):
        return ("count",)
    for k, level in enumerate(levels):
        if task[1] in level:
            return ("target", k)
    graph = graph_of(task, registers)
    for k, level in enumerate(levels):
        if k < len(levels) - 1 or moves is None:
            allowed = {configuration for each in levels[:k + 2] for configuration in each}
            for configuration in level:
                for step, after in sorted(graph[number_of(configuration)].items()):
                    if configuration_of(after) not in allowed:
                        return ("step", k, configuration, step)
    return None


def is_right_price(task, prices, certificate):
    """Tell whether a price certificate is right, by the words of the document."""
    registers, price, pairs = certificate
    if ((), 0) not in pairs:
        return False
    if any(c == task[1] and (price is None or bound < price) for c, bound in pairs):
        return False
    graph = edges(task, registers)
    for configuration, bound in pairs:
        if price is not None and bound >= price:
            continue
        for step, after in graph[number_of(configuration)].items():
            most = bound + prices[step]
            if not any(c == configuration_of(after) and b <= most for c, b in pairs):
                return False
    return True


def flaw_of_code(program, code):
    """Return the flaw of code, by the words of the document."""
    _, _, steps, outputs = program
    held = [None] * 8
    for place, (number, sign, operation, *sources) in enumerate(code):
        empty = [f"r{k}" for k in range(8) if held[k] is None]
        names = {f"r{k}": f"s{held[k]}" for k in range(8)}
        meaning = (operation, *(names.get(source, source) for source in sources))
        step = steps.index(meaning) if meaning in steps else None
        reasons = (
            (sign == "+" and held[number] is not None, "register holds a step"),
            (sign == "-" and held[number] is None, "register holds no step"),
            (any(source in empty for source in sources), "source holds no step"),
            (step is None, "no such step"),
            (sign == "+" and step in held, "step is held"),
            (sign == "-" and step != held[number], "register holds another step"))
        for applies, what in reasons:
            if applies:
                return place, what
        held[number] = step if sign == "+" else None
    if {step for step in held if step is not None} != set(outputs):
        return len(code), "other outputs"
    return None
