"""The calls that tell what there is: span, near, due, look, told, log, state. Each answers a list of whole numbers."""

from climbwall.refusals import NO_SUCH
from climbwall.refusals import OUT_OF_RANGE
from climbwall.ways import apart_squared
from climbwall.ways import can_hold
from climbwall.ways import is_within_reach

MOST_HANDS_ASKED = 100


def least_root(squared):
    """The least whole number whose square is no less."""
    root = 0
    while root * root < squared:
        root += 1
    return root


def tell_span(wall, h, i):
    if h >= len(wall.holds) or i >= len(wall.holds):
        return [NO_SUCH]
    squared = apart_squared(wall.holds[h], wall.holds[i])
    return [squared, least_root(squared)]


def is_near(climber, hold, other):
    # The hold itself may be off or too bad: only the other one is to be held.
    return can_hold(climber, other) and is_within_reach(climber, hold, other)


def tell_near(wall, c, h):
    if c >= len(wall.climbers) or h >= len(wall.holds):
        return [NO_SUCH]
    climber = wall.climbers[c]
    hold = wall.holds[h]
    near = [i for i, other in enumerate(wall.holds) if i != h and is_near(climber, hold, other)]
    return [len(near)] + near


def would_fall(hold, hands_to_fall, hands_more):
    # A grip of 0 can't fall, however many hands are put on the hold.
    return hold.grip > 0 and hold.hands + hands_more >= hands_to_fall


def tell_due(wall, hands_more):
    if hands_more > MOST_HANDS_ASKED:
        return [OUT_OF_RANGE]
    due = [h for h, hold in enumerate(wall.holds) if would_fall(hold, wall.hands_to_fall, hands_more)]
    return [len(due)] + due


def as_number(truth):
    return 1 if truth else 0


def look_at(wall, h):
    if h >= len(wall.holds):
        return [NO_SUCH]
    hold = wall.holds[h]
    return [hold.grip, hold.x, hold.y, hold.hands, as_number(hold.on)]


def tell_route(wall, r):
    if r >= len(wall.routes):
        return [NO_SUCH]
    route = wall.routes[r]
    return [len(route.stops)] + route.stops + [as_number(route.must_lead)]


def tell_log(wall, c):
    if c >= len(wall.climbers):
        return [NO_SUCH]
    climber = wall.climbers[c]
    return [climber.climbs, climber.moves, climber.reach, climber.strength, as_number(climber.may_lead)]


def tell_state(wall):
    return [wall.hands_to_fall, len(wall.holds), len(wall.routes), len(wall.climbers)]
