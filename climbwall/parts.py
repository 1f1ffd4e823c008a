"""What is kept from call to call: the wall with its holds, routes and climbers."""


class Hold:
    """A hold at a place; hands are those put on it since it was new or its grip fell."""

    def __init__(self, x, y, grip):
        self.x = x
        self.y = y
        self.grip = grip
        self.hands = 0
        self.on = True


class Route:
    """The numbers of its holds, from the first to the top."""

    def __init__(self, must_lead, stops):
        self.must_lead = must_lead
        self.stops = stops


class Climber:
    """Somebody with two hands; climbs are those they made, moves how many these had in all."""

    def __init__(self, reach, strength, may_lead):
        self.reach = reach
        self.strength = strength
        self.may_lead = may_lead
        self.climbs = 0
        self.moves = 0


class Wall:
    """All that there is; holds, routes and climbers are numbered by their place in the lists."""

    def __init__(self):
        self.begun = False
        self.hands_to_fall = 0
        self.holds = []
        self.routes = []
        self.climbers = []
