"""The calls on one wall, read from one list of whole numbers, and their answers in another."""

from climbwall.asking import best_route
from climbwall.asking import least_reach
from climbwall.asking import least_strength
from climbwall.asking import needed_holds
from climbwall.asking import tell_which
from climbwall.asking import tell_who
from climbwall.climbing import can_climb
from climbwall.climbing import climb_route
from climbwall.climbing import fewest_moves
from climbwall.climbing import tell_way
from climbwall.parts import Wall
from climbwall.refusals import NOT_BEGUN
from climbwall.setting import add_climber
from climbwall.setting import add_hold
from climbwall.setting import add_route
from climbwall.setting import begin
from climbwall.setting import put_back
from climbwall.setting import shift_hold
from climbwall.setting import take_off
from climbwall.setting import train_climber
from climbwall.setting import turn_hold
from climbwall.telling import look_at
from climbwall.telling import tell_due
from climbwall.telling import tell_log
from climbwall.telling import tell_near
from climbwall.telling import tell_route
from climbwall.telling import tell_span
from climbwall.telling import tell_state

BEGIN = 0
HOLD = 1
SHIFT = 2
OFF = 3
BACK = 4
TURN = 5
ROUTE = 6
CLIMBER = 7
TRAIN = 8
CAN = 9
FEWEST = 10
WAY = 11
CLIMB = 12
WHO = 13
WHICH = 14
REACH = 15
STRONG = 16
NEEDED = 17
SPAN = 18
NEAR = 19
DUE = 20
BEST = 21
LOOK = 22
TOLD = 23
LOG = 24

# By a call's number: how many whole numbers stand behind it (a row of route's not counted).
WIDTHS = (1, 3, 3, 1, 1, 2, 1, 3, 2, 2, 2, 2, 2, 1, 1, 1, 1, 2, 2, 2, 1, 1, 1, 1, 1, 0)


def answer_hold_call(wall, call, told):
    if call == HOLD:
        return add_hold(wall, told[0], told[1], told[2])
    if call == SHIFT:
        return shift_hold(wall, told[0], told[1], told[2])
    if call == OFF:
        return take_off(wall, told[0])
    if call == BACK:
        return put_back(wall, told[0])
    return turn_hold(wall, told[0], told[1])


def answer_people_call(wall, call, told, row):
    if call == ROUTE:
        return add_route(wall, told[0], row)
    if call == CLIMBER:
        return add_climber(wall, told[0], told[1], told[2])
    return train_climber(wall, told[0], told[1])


def answer_climbing_call(wall, call, told):
    if call == CAN:
        return can_climb(wall, told[0], told[1])
    if call == FEWEST:
        return fewest_moves(wall, told[0], told[1])
    if call == WAY:
        return tell_way(wall, told[0], told[1])
    return climb_route(wall, told[0], told[1])


def answer_asking_call(wall, call, told):
    if call == WHO:
        return tell_who(wall, told[0])
    if call == WHICH:
        return tell_which(wall, told[0])
    if call == REACH:
        return least_reach(wall, told[0])
    if call == STRONG:
        return least_strength(wall, told[0])
    if call == NEEDED:
        return needed_holds(wall, told[0], told[1])
    return best_route(wall, told[0])


def answer_telling_call(wall, call, told):
    if call == SPAN:
        return tell_span(wall, told[0], told[1])
    if call == NEAR:
        return tell_near(wall, told[0], told[1])
    if call == DUE:
        return tell_due(wall, told[0])
    if call == LOOK:
        return look_at(wall, told[0])
    if call == TOLD:
        return tell_route(wall, told[0])
    if call == LOG:
        return tell_log(wall, told[0])
    return tell_state(wall)


def answer_call(wall, call, told, row):
    if call == BEGIN:
        return begin(wall, told[0])
    if not wall.begun:
        return [NOT_BEGUN]
    if call <= TURN:
        return answer_hold_call(wall, call, told)
    if call <= TRAIN:
        return answer_people_call(wall, call, told, row)
    if call <= CLIMB:
        return answer_climbing_call(wall, call, told)
    if call <= NEEDED or call == BEST:
        return answer_asking_call(wall, call, told)
    return answer_telling_call(wall, call, told)


def answers(calls):
    """For each call how many numbers are answered, then these."""
    wall = Wall()
    given = []
    at = 0
    while at < len(calls):
        call = calls[at]
        row_at = at + 1 + WIDTHS[call]
        told = calls[at + 1:row_at]
        row = []
        at = row_at
        if call == ROUTE:
            at = row_at + 1 + calls[row_at]
            row = calls[row_at + 1:at]
        answer = answer_call(wall, call, told, row)
        given.append(len(answer))
        given.extend(answer)
    return given
