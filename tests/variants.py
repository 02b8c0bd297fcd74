"""Certificates that are like a given one, but for a little."""


def replaced(levels, at, level):
    """Return the levels with another one at this place."""
    return (*levels[:at], tuple(level), *levels[at + 1:])


def changed(given):
    """Return certificates that are like the given one, but for one configuration, level or number."""
    registers, moves, levels = given
    found = [(registers + 1, moves, levels), (registers - 1, moves, levels), (registers, None, levels),
             (registers, len(levels), levels), (registers, len(levels) + 1, levels)]
    every = sorted({configuration for level in levels for configuration in level} | {(0, 1, 2)})
    for at, level in enumerate(levels):
        without = levels[:at] + levels[at + 1:]
        if without:
            found += [(registers, moves, without), (registers, len(without), without)]
        found.append((registers, moves, replaced(levels, at, level[::-1])))
        for configuration in every:
            kept = [each for each in level if each != configuration]
            for other in (kept, [configuration, *level], [*level, configuration]):
                found.append((registers, moves, replaced(levels, at, other)))
    return found
