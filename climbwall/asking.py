"""The calls about who gets up what: who, which, best, reach, strong, needed. Each answers a list of whole numbers."""

from climbwall.climbing import are_there
from climbwall.climbing import way_of
from climbwall.parts import Climber
from climbwall.refusals import NONE_AT_ALL
from climbwall.refusals import NO_SUCH
from climbwall.refusals import NO_WAY
from climbwall.setting import MOST_REACH
from climbwall.setting import MOST_STRENGTH
from climbwall.ways import first_way


def tell_who(wall, r):
    if r >= len(wall.routes):
        return [NO_SUCH]
    able = [c for c in range(len(wall.climbers)) if way_of(wall, c, r)]
    return [len(able)] + able


def tell_which(wall, c):
    if c >= len(wall.climbers):
        return [NO_SUCH]
    theirs = [r for r in range(len(wall.routes)) if way_of(wall, c, r)]
    return [len(theirs)] + theirs


def best_route(wall, c):
    if c >= len(wall.climbers):
        return [NO_SUCH]
    counts = [len(way_of(wall, c, r)) for r in range(len(wall.routes))]
    most = max(counts, default=0)
    # A route without a way counts no moves, and every way has some.
    if most == 0:
        return [NONE_AT_ALL]
    return [counts.index(most), most]


def would_get_up(wall, r, reach, strength):
    return first_way(wall.holds, wall.routes[r].stops, Climber(reach, strength, False)) != []


def least_reach(wall, r):
    if r >= len(wall.routes):
        return [NO_SUCH]
    # Who reaches further gets up where another does; so the range can be halved again and again.
    least = 0
    beyond = MOST_REACH + 1
    while least < beyond:
        middle = (least + beyond) // 2
        if would_get_up(wall, r, middle, MOST_STRENGTH):
            beyond = middle
        else:
            least = middle + 1
    if least > MOST_REACH:
        return [NO_WAY]
    return [least]


def least_strength(wall, r):
    if r >= len(wall.routes):
        return [NO_SUCH]
    for strength in range(1, MOST_STRENGTH + 1):
        if would_get_up(wall, r, MOST_REACH, strength):
            return [strength]
    return [NO_WAY]


def gets_up_without(wall, c, r, h):
    stops = [stop for stop in wall.routes[r].stops if stop != h]
    return first_way(wall.holds, stops, wall.climbers[c]) != []


def needed_holds(wall, c, r):
    if not are_there(wall, c, r):
        return [NO_SUCH]
    if not way_of(wall, c, r):
        return [NO_WAY]
    between = sorted(wall.routes[r].stops[1:-1])
    needed = [h for h in between if not gets_up_without(wall, c, r, h)]
    return [len(needed)] + needed
