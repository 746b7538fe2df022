"""The true walks as the tests reckon them, with nothing drawn from the program."""

import itertools

from answers import HONEYCOMB, HOW_MANY_STEPS, SQUARES, TRIANGLES


def neighbours(kind, x, y):
    """The places beside x, y, in the order of the steps' numbers."""
    if kind == SQUARES:
        return [(x + 1, y), (x, y + 1), (x - 1, y), (x, y - 1)]
    if kind == TRIANGLES:
        return [(x + 1, y), (x, y + 1), (x - 1, y + 1), (x - 1, y), (x, y - 1), (x + 1, y - 1)]
    if kind == HONEYCOMB:
        return [(x + 1, y), (x - 1, y), (x, y + 1 if (x + y) % 2 == 0 else y - 1)]
    raise ValueError(kind)


def never_twice(kind, steps):
    place = (0, 0)
    seen = {place}
    for step in steps:
        place = neighbours(kind, *place)[step]
        if place in seen:
            return False
        seen.add(place)
    return True


def all_steps(kind, n):
    """All ways to write down n steps, true or not, in order."""
    return [list(steps) for steps in itertools.product(range(HOW_MANY_STEPS[kind]), repeat=n)]


def true_walks(kind, n):
    """All true walks of n steps, in order."""
    return [steps for steps in all_steps(kind, n) if never_twice(kind, steps)]
