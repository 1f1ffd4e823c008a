"""The search for the first way up. A move is a pair: the hand, the number of the hold."""

LEFT = 0
RIGHT = 1
ENOUGH_TO_HOLD = 10


def can_hold(climber, hold):
    return hold.on and hold.grip + climber.strength >= ENOUGH_TO_HOLD


def apart_squared(hold, other):
    across = hold.x - other.x
    up = hold.y - other.y
    return across * across + up * up


def is_within_reach(climber, hold, other):
    return apart_squared(hold, other) <= climber.reach * climber.reach


def can_be_on(climber, left, right):
    return left.x <= right.x and is_within_reach(climber, left, right)


def hands_after(hands, move):
    if move[0] == LEFT:
        return (move[1], hands[RIGHT])
    return (hands[LEFT], move[1])


def spread(holds, climber, moves, ways, rim):
    """Make every move from each pair of hands in rim; answer the pairs that are new, in the order they came."""
    further = []
    for hands in rim:
        for move in moves:
            after = hands_after(hands, move)
            if after not in ways and can_be_on(climber, holds[after[LEFT]], holds[after[RIGHT]]):
                ways[after] = ways[hands] + [move]
                further.append(after)
    return further


def first_way(holds, stops, climber):
    """The moves of the climber's first way along the stops, or an empty list if there is none.

    A way is never empty, as the first stop isn't the last.
    """
    usable = sorted([h for h in stops if can_hold(climber, holds[h])])
    if stops[0] not in usable:
        return []
    moves = [(LEFT, h) for h in usable] + [(RIGHT, h) for h in usable]
    start = (stops[0], stops[0])
    top = (stops[-1], stops[-1])
    # Pairs of hands are met move count by move count, and within one count in the order of
    # their first ways; so the way by which a pair is met first is the first way to it.
    ways = {start: []}
    rim = [start]
    while rim and top not in ways:
        rim = spread(holds, climber, moves, ways, rim)
    return ways.get(top, [])
