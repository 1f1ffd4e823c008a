"""The calls that set up the wall: begin, holds, routes, climbers. Each answers a list of whole numbers."""

from climbwall.parts import Climber
from climbwall.parts import Hold
from climbwall.parts import Route
from climbwall.refusals import NO_SUCH
from climbwall.refusals import OUT_OF_RANGE
from climbwall.refusals import SO_ALREADY
from climbwall.refusals import TOO_MANY

MOST_HOLDS = 20
MOST_ROUTES = 6
MOST_CLIMBERS = 8
MOST_HANDS_TO_FALL = 100
FURTHEST = 50
BEST_GRIP = 9
MOST_STRENGTH = 9
MOST_REACH = 71
FEWEST_STOPS = 2
MOST_STOPS = 8


def begin(wall, hands_to_fall):
    if not 1 <= hands_to_fall <= MOST_HANDS_TO_FALL:
        return [OUT_OF_RANGE]
    wall.begun = True
    wall.hands_to_fall = hands_to_fall
    wall.holds = []
    wall.routes = []
    wall.climbers = []
    return [0]


def is_grip(grip):
    return 1 <= grip <= BEST_GRIP


def is_strength(strength):
    return 1 <= strength <= MOST_STRENGTH


def is_place(x, y):
    return x <= FURTHEST and y <= FURTHEST


def is_taken(wall, x, y):
    return any([hold.x == x and hold.y == y for hold in wall.holds])


def add_hold(wall, x, y, grip):
    if len(wall.holds) == MOST_HOLDS:
        return [TOO_MANY]
    if not is_place(x, y) or not is_grip(grip):
        return [OUT_OF_RANGE]
    if is_taken(wall, x, y):
        return [SO_ALREADY]
    wall.holds.append(Hold(x, y, grip))
    return [len(wall.holds) - 1]


def shift_hold(wall, h, x, y):
    if h >= len(wall.holds):
        return [NO_SUCH]
    if not is_place(x, y):
        return [OUT_OF_RANGE]
    # The hold's own place counts as taken too: there is a hold there.
    if is_taken(wall, x, y):
        return [SO_ALREADY]
    hold = wall.holds[h]
    answer = [hold.x, hold.y]
    hold.x = x
    hold.y = y
    return answer


def take_off(wall, h):
    if h >= len(wall.holds):
        return [NO_SUCH]
    hold = wall.holds[h]
    if not hold.on:
        return [SO_ALREADY]
    hold.on = False
    return [len([route for route in wall.routes if h in route.stops])]


def put_back(wall, h):
    if h >= len(wall.holds):
        return [NO_SUCH]
    hold = wall.holds[h]
    if hold.on:
        return [SO_ALREADY]
    hold.on = True
    return [0]


def turn_hold(wall, h, grip):
    if h >= len(wall.holds):
        return [NO_SUCH]
    if not is_grip(grip):
        return [OUT_OF_RANGE]
    hold = wall.holds[h]
    answer = [hold.grip, hold.hands]
    hold.grip = grip
    hold.hands = 0
    return answer


def are_stops(stops):
    return FEWEST_STOPS <= len(stops) <= MOST_STOPS and len(set(stops)) == len(stops)


def add_route(wall, lead, stops):
    if len(wall.routes) == MOST_ROUTES:
        return [TOO_MANY]
    if lead > 1 or not are_stops(stops):
        return [OUT_OF_RANGE]
    if max(stops) >= len(wall.holds):
        return [NO_SUCH]
    wall.routes.append(Route(lead == 1, list(stops)))
    return [len(wall.routes) - 1]


def add_climber(wall, reach, strength, lead):
    if len(wall.climbers) == MOST_CLIMBERS:
        return [TOO_MANY]
    if not 1 <= reach <= MOST_REACH or not is_strength(strength) or lead > 1:
        return [OUT_OF_RANGE]
    wall.climbers.append(Climber(reach, strength, lead == 1))
    return [len(wall.climbers) - 1]


def train_climber(wall, c, strength):
    if c >= len(wall.climbers):
        return [NO_SUCH]
    if not is_strength(strength):
        return [OUT_OF_RANGE]
    climber = wall.climbers[c]
    answer = [climber.strength]
    climber.strength = strength
    return answer
