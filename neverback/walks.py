"""The calls: each takes a walk, step by step, and answers a list of whole numbers."""

OUT_OF_RANGE = -2
NOT_A_STEP = -3

MOST_STEPS = 4096

HONEYCOMB = 2

# By kind, then by the step's number: what is added to x and to y.
# The honeycomb's last one is as it is where x + y is even.
MOVES = (
    ((1, 0), (0, 1), (-1, 0), (0, -1)),
    ((1, 0), (0, 1), (-1, 1), (-1, 0), (0, -1), (1, -1)),
    ((1, 0), (-1, 0), (0, 1)),
)


def in_range(kind, steps):
    return 0 <= kind < len(MOVES) and len(steps) <= MOST_STEPS


def are_steps(kind, steps):
    for step in steps:
        if not 0 <= step < len(MOVES[kind]):
            return False
    return True


def refusal(kind, steps):
    """The number that refuses the walk, or 0 if there is no such number."""
    # The range comes first: without a kind there is nothing to hold the steps against.
    if not in_range(kind, steps):
        return OUT_OF_RANGE
    if not are_steps(kind, steps):
        return NOT_A_STEP
    return 0


def place_after(kind, place, step):
    x = place[0]
    y = place[1]
    move = MOVES[kind][step]
    # Turning y's part over is right for every step of the honeycomb: in the others it is 0.
    if kind == HONEYCOMB and (x + y) % 2 == 1:
        return (x + move[0], y - move[1])
    return (x + move[0], y + move[1])


def places_of(kind, steps):
    """All places of the walk in their order, the first one too."""
    place = (0, 0)
    places = [place]
    for step in steps:
        place = place_after(kind, place, step)
        places.append(place)
    return places


def all_differ(places):
    return len(set(places)) == len(places)


def is_true(kind, steps):
    """[1] if the walk is never at a place twice, else [0]; or a refusal."""
    refused = refusal(kind, steps)
    if refused != 0:
        return [refused]
    return [1 if all_differ(places_of(kind, steps)) else 0]


def end(kind, steps):
    """[0, x, y] with the place where the walk ends, true or not; or a refusal."""
    refused = refusal(kind, steps)
    if refused != 0:
        return [refused]
    last = places_of(kind, steps)[-1]
    return [0, last[0], last[1]]
