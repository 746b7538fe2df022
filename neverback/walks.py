"""The calls: each takes a walk, step by step, or how many steps it has, and answers a list of whole numbers."""

OUT_OF_RANGE = -2
WRONG_STEPS = -3
NONE_AFTER = -5

MOST_STEPS = 4096
MOST_STEPS_COUNTED = 16
LEAST_STEPS_OF_RINGS = 3
GREATEST_TURN = 7

SQUARES = 0
HONEYCOMB = 2

# By kind, then by the step's number: what is added to x and to y.
# The honeycomb's last one is as it is where x + y is even.
MOVES = (
    ((1, 0), (0, 1), (-1, 0), (0, -1)),
    ((1, 0), (0, 1), (-1, 1), (-1, 0), (0, -1), (1, -1)),
    ((1, 0), (-1, 0), (0, 1)),
)


def is_kind(kind):
    return 0 <= kind < len(MOVES)


def are_steps(kind, steps):
    for step in steps:
        if not 0 <= step < len(MOVES[kind]):
            return False
    return True


def refusal(kind, steps):
    """The number that refuses the walk, or 0 if there is no such number."""
    # The range comes first: without a kind there is nothing to hold the steps against.
    if not is_kind(kind) or len(steps) > MOST_STEPS:
        return OUT_OF_RANGE
    if not are_steps(kind, steps):
        return WRONG_STEPS
    return 0


def place_after(kind, place, step):
    x = place[0]
    y = place[1]
    move = MOVES[kind][step]
    # Turning y's part over is right for every step of the honeycomb: in the others it is 0.
    if kind == HONEYCOMB and (x + y) % 2 == 1:
        return (x + move[0], y - move[1])
    return (x + move[0], y + move[1])


def places_of(kind, steps):
    """All places of the walk in their order, the first one too."""
    place = (0, 0)
    places = [place]
    for step in steps:
        place = place_after(kind, place, step)
        places.append(place)
    return places


def all_differ(places):
    return len(set(places)) == len(places)


def how_many_differ(places):
    """How many places, from the first on, there are until one comes again."""
    seen = {}
    for place in places:
        if place in seen:
            break
        seen[place] = True
    return len(seen)


def open_steps(kind, places, least):
    """The steps from number least on that lead from the last place to none of these places."""
    last = places[-1]
    return [step for step in range(least, len(MOVES[kind])) if place_after(kind, last, step) not in places]


def first_true(kind, n, start, least):
    """The first true walk of n steps that begins with start and then step least, or comes after that; or None."""
    walk = list(start)
    places = places_of(kind, walk)
    while len(walk) < n:
        found = open_steps(kind, places, least)
        if found != []:
            walk.append(found[0])
            places.append(place_after(kind, places[-1], found[0]))
            least = 0
        elif walk != []:
            # A dead end: the step that led here has to change.
            places.pop()
            least = walk.pop() + 1
        else:
            return None
    return walk


def walk_after(kind, steps):
    """The first true walk of as many steps that comes after these, or None."""
    n = len(steps)
    # Steps behind a place that comes again can't mend it: the one that leads there is the last that may change.
    at = min(how_many_differ(places_of(kind, steps)), n) - 1
    if at < 0:
        return None
    return first_true(kind, n, steps[:at], steps[at] + 1)


def may_be_counted(kind, n, least):
    return is_kind(kind) and least <= n <= MOST_STEPS_COUNTED


def sum_on(kind, places, left, worth):
    """The sum of what each way is worth that goes on from the last place for so many steps, to new places alone."""
    if left == 0:
        return worth(places)
    total = 0
    for step in open_steps(kind, places, 0):
        place = place_after(kind, places[-1], step)
        total = total + sum_on(kind, places + [place], left - 1, worth)
    return total


def sum_of_walks(kind, n, worth):
    """The sum of worth(places) over the places of all true walks of n steps."""
    return sum_on(kind, [(0, 0)], n, worth)


def ways_home(kind, places):
    """How many steps lead from the last place to the first."""
    last = places[-1]
    return len([step for step in range(len(MOVES[kind])) if place_after(kind, last, step) == places[0]])


def is_bridge(places):
    """Whether these places of a true walk are those of a bridge."""
    greatest = places[-1][0]
    for place in places[1:]:
        if not 0 < place[0] <= greatest:
            return False
    return True


def square_to_end(places):
    """The square of how far the last place is from 0, 0."""
    last = places[-1]
    return last[0] * last[0] + last[1] * last[1]


def turned_step(step, how):
    # Turns from 4 on go round the other way: they turn the walk over too.
    return (step + how if how < 4 else how - step) % 4


def turn_refusal(at, how, steps):
    """The number that refuses to turn the walk, or 0 if there is no such number."""
    if not 0 <= at < len(steps) or not 0 <= how <= GREATEST_TURN:
        return OUT_OF_RANGE
    refused = refusal(SQUARES, steps)
    if refused != 0:
        return refused
    return 0 if all_differ(places_of(SQUARES, steps)) else WRONG_STEPS


def is_true(kind, steps):
    """[1] if the walk is never at a place twice, else [0]; or a refusal."""
    refused = refusal(kind, steps)
    if refused != 0:
        return [refused]
    return [1 if all_differ(places_of(kind, steps)) else 0]


def end(kind, steps):
    """[0, x, y] with the place where the walk ends, true or not; or a refusal."""
    refused = refusal(kind, steps)
    if refused != 0:
        return [refused]
    last = places_of(kind, steps)[-1]
    return [0, last[0], last[1]]


def next_walk(kind, steps):
    """[0, then the steps of the next true walk of as many steps], these may be true or not; or a refusal."""
    refused = refusal(kind, steps)
    if refused != 0:
        return [refused]
    walk = walk_after(kind, steps)
    if walk is None:
        return [NONE_AFTER]
    return [0] + walk


def count(kind, n):
    """[0, how many true walks of n steps there are]; or a refusal."""
    if not may_be_counted(kind, n, 0):
        return [OUT_OF_RANGE]
    return [0, sum_of_walks(kind, n, lambda places: 1)]


def rings(kind, n):
    """[0, how many rings of n steps there are]; or a refusal."""
    if not may_be_counted(kind, n, LEAST_STEPS_OF_RINGS):
        return [OUT_OF_RANGE]
    # A ring without its last step is a true walk, and one that is a step away from where it began.
    return [0, sum_of_walks(kind, n - 1, lambda places: ways_home(kind, places))]


def bridges(n):
    """[0, how many bridges of n steps there are]; or a refusal."""
    if not may_be_counted(SQUARES, n, 0):
        return [OUT_OF_RANGE]
    return [0, sum_of_walks(SQUARES, n, lambda places: 1 if is_bridge(places) else 0)]


def spread(n):
    """[0, the sum of x x + y y of the ends of all true walks of n steps on squares]; or a refusal."""
    if not may_be_counted(SQUARES, n, 0):
        return [OUT_OF_RANGE]
    return [0, sum_of_walks(SQUARES, n, square_to_end)]


def turn(at, turn, steps):
    """[1 if the walk is true with its steps from number at on turned, else 0, then its steps]; or a refusal."""
    refused = turn_refusal(at, turn, steps)
    if refused != 0:
        return [refused]
    walk = steps[:at] + [turned_step(step, turn) for step in steps[at:]]
    return is_true(SQUARES, walk) + walk
