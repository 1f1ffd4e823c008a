"""The calls about a climber on a route: can, fewest, way, climb. Each answers a list of whole numbers."""

from climbwall.refusals import MUST_LEAD
from climbwall.refusals import NO_SUCH
from climbwall.refusals import NO_WAY
from climbwall.ways import first_way


def are_there(wall, c, r):
    return c < len(wall.climbers) and r < len(wall.routes)


def way_of(wall, c, r):
    return first_way(wall.holds, wall.routes[r].stops, wall.climbers[c])


def can_climb(wall, c, r):
    if not are_there(wall, c, r):
        return [NO_SUCH]
    return [1 if way_of(wall, c, r) else 0]


def fewest_moves(wall, c, r):
    if not are_there(wall, c, r):
        return [NO_SUCH]
    moves = way_of(wall, c, r)
    if not moves:
        return [NO_WAY]
    return [len(moves)]


def tell_way(wall, c, r):
    if not are_there(wall, c, r):
        return [NO_SUCH]
    moves = way_of(wall, c, r)
    if not moves:
        return [NO_WAY]
    answer = [len(moves)]
    for move in moves:
        answer.extend(move)
    return answer


def wear(hold, hands_to_fall):
    """Count one hand more that was put on the hold; answer whether its grip fell."""
    hold.hands += 1
    if hold.hands < hands_to_fall:
        return False
    hold.hands = 0
    if hold.grip == 0:
        return False
    hold.grip -= 1
    return True


def make_moves(wall, moves):
    """Wear the holds move by move; answer how many different holds' grips fell."""
    fallen = {}
    for move in moves:
        if wear(wall.holds[move[1]], wall.hands_to_fall):
            fallen[move[1]] = True
    return len(fallen)


def climb_route(wall, c, r):
    if not are_there(wall, c, r):
        return [NO_SUCH]
    climber = wall.climbers[c]
    if wall.routes[r].must_lead and not climber.may_lead:
        return [MUST_LEAD]
    # The way is the first one as the holds are at the beginning: wear on the way up doesn't end it.
    moves = way_of(wall, c, r)
    if not moves:
        return [NO_WAY]
    climber.climbs += 1
    climber.moves += len(moves)
    return [len(moves), make_moves(wall, moves)]
