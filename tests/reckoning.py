"""The walks as the tests reckon them, with nothing drawn from the program."""

import itertools

from answers import HONEYCOMB, HOW_MANY_STEPS, SQUARES, TRIANGLES


def neighbours(kind, x, y):
    """The places beside x, y, in the order of the steps' numbers."""
    if kind == SQUARES:
        return [(x + 1, y), (x, y + 1), (x - 1, y), (x, y - 1)]
    if kind == TRIANGLES:
        return [(x + 1, y), (x, y + 1), (x - 1, y + 1), (x - 1, y), (x, y - 1), (x + 1, y - 1)]
    if kind == HONEYCOMB:
        return [(x + 1, y), (x - 1, y), (x, y + 1 if (x + y) % 2 == 0 else y - 1)]
    raise ValueError(kind)


def never_twice(kind, steps):
    place = (0, 0)
    seen = {place}
    for step in steps:
        place = neighbours(kind, *place)[step]
        if place in seen:
            return False
        seen.add(place)
    return True


def places_gone(kind, steps):
    """The places of the walk, the first one too."""
    gone = [(0, 0)]
    for step in steps:
        gone.append(neighbours(kind, *gone[-1])[step])
    return gone


def comes_home(kind, steps):
    """Whether it is a ring: at 0, 0 with the last step, at no place twice ahead of that."""
    gone = places_gone(kind, steps)
    return len(steps) >= 3 and gone[-1] == (0, 0) and never_twice(kind, steps[:-1])


def stays_on_one_side(steps):
    """Whether it is a bridge."""
    across = [x for x, y in places_gone(SQUARES, steps)]
    return never_twice(SQUARES, steps) and all(x > 0 for x in across[1:]) and max(across) == across[-1]


def all_steps(kind, n):
    """All ways to write down n steps, true or not, in order."""
    return [list(steps) for steps in itertools.product(range(HOW_MANY_STEPS[kind]), repeat=n)]


def true_walks(kind, n):
    """All true walks of n steps, in order."""
    return [steps for steps in all_steps(kind, n) if never_twice(kind, steps)]


def all_rings(kind, n):
    return [steps for steps in all_steps(kind, n) if comes_home(kind, steps)]


def all_bridges(n):
    return [steps for steps in all_steps(SQUARES, n) if stays_on_one_side(steps)]


def spread_of(n):
    """The sum of the squares of how far the true walks of n steps on squares go."""
    ends = [places_gone(SQUARES, steps)[-1] for steps in true_walks(SQUARES, n)]
    return sum(x**2 + y**2 for x, y in ends)
