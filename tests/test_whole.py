"""All 26 calls, in long lists drawn from a fixed seed, held against a plain second writing of the document."""

import random
import unittest

from tests.helper import (HUGE, back, begin, best, can, climb, climber, due, fewest, hold, log, look, near, needed, off,
                          reach, route, run, shift, span, state, strong, told, train, turn, way, which, who)

MAKERS = (begin, hold, shift, off, back, turn, route, climber, train, can, fewest, way, climb, who, which, reach, strong,
          needed, span, near, due, best, look, told, log, state)
NAMES = [maker.__name__ for maker in MAKERS]

# Which refusals the document tells of each call, beside -11.
REFUSALS = {
    "begin": [-22], "hold": [-28, -22, -17], "shift": [-2, -22, -17], "off": [-2, -17], "back": [-2, -17],
    "turn": [-2, -22], "route": [-28, -22, -2], "climber": [-28, -22], "train": [-2, -22], "can": [-2],
    "fewest": [-2, -33], "way": [-2, -33], "climb": [-2, -61, -33], "who": [-2], "which": [-2], "reach": [-2, -33],
    "strong": [-2, -33], "needed": [-2, -33], "span": [-2], "near": [-2], "due": [-22], "best": [-2, -6],
    "look": [-2], "told": [-2], "log": [-2], "state": [],
}


class Refused(Exception):
    pass


def refuse(number, due_now):
    if due_now:
        raise Refused(number)


def counted(numbers):
    return [len(numbers)] + sorted(numbers)


class Plain:
    """The document once more. A hold is [x, y, grip, hands, on], a climber [reach, strength, lead, climbs, moves]."""

    def __init__(self):
        self.w = None

    def answer(self, call):
        name = NAMES[call[0]]
        try:
            refuse(-11, self.w is None and name != "begin")
            return getattr(self, name)(*call[1:])
        except Refused as refused:
            return [refused.args[0]]

    def ask_for(self, holds=(), routes=(), climbers=()):
        refuse(-2, any(h >= len(self.holds) for h in holds))
        refuse(-2, any(r >= len(self.routes) for r in routes))
        refuse(-2, any(c >= len(self.climbers) for c in climbers))

    def begin(self, w):
        refuse(-22, w not in range(1, 101))
        self.w, self.holds, self.routes, self.climbers = w, [], [], []
        return [0]

    def hold(self, x, y, g):
        refuse(-28, len(self.holds) >= 20)
        refuse(-22, x > 50 or y > 50 or g not in range(1, 10))
        refuse(-17, [x, y] in [one[:2] for one in self.holds])
        self.holds.append([x, y, g, 0, 1])
        return [len(self.holds) - 1]

    def shift(self, h, x, y):
        self.ask_for(holds=[h])
        refuse(-22, x > 50 or y > 50)
        refuse(-17, [x, y] in [one[:2] for one in self.holds])
        was = self.holds[h][:2]
        self.holds[h][:2] = [x, y]
        return was

    def off(self, h):
        self.ask_for(holds=[h])
        refuse(-17, self.holds[h][4] == 0)
        self.holds[h][4] = 0
        return [sum(h in stops for lead, stops in self.routes)]

    def back(self, h):
        self.ask_for(holds=[h])
        refuse(-17, self.holds[h][4] == 1)
        self.holds[h][4] = 1
        return [0]

    def turn(self, h, g):
        self.ask_for(holds=[h])
        refuse(-22, g not in range(1, 10))
        was = self.holds[h][2:4]
        self.holds[h][2:4] = [g, 0]
        return was

    def route(self, lead, count, *stops):
        refuse(-28, len(self.routes) >= 6)
        refuse(-22, lead not in (0, 1) or not 2 <= count <= 8 or any(stops.count(h) > 1 for h in stops))
        self.ask_for(holds=stops)
        self.routes.append((lead, list(stops)))
        return [len(self.routes) - 1]

    def climber(self, r, s, lead):
        refuse(-28, len(self.climbers) >= 8)
        refuse(-22, r not in range(1, 72) or s not in range(1, 10) or lead not in (0, 1))
        self.climbers.append([r, s, lead, 0, 0])
        return [len(self.climbers) - 1]

    def train(self, c, s):
        self.ask_for(climbers=[c])
        refuse(-22, s not in range(1, 10))
        was = self.climbers[c][1]
        self.climbers[c][1] = s
        return [was]

    def holdable(self, h, strength):
        return self.holds[h][4] == 1 and self.holds[h][2] + strength >= 10

    def squared(self, h, i):
        return (self.holds[h][0] - self.holds[i][0]) ** 2 + (self.holds[h][1] - self.holds[i][1]) ** 2

    def gets_up(self, stops, far, strength):
        """Whether the top is met from hold to hold: where one hand steps to, the other can follow."""
        met = [h for h in stops[:1] if self.holdable(h, strength)]
        for h in met:
            met += [i for i in stops if i not in met and self.holdable(i, strength) and self.squared(h, i) <= far ** 2]
        return stops[-1] in met

    def moves_left(self, stops, far, strength):
        """For each pair of hands from which the top is met: with how few moves, told from the top downwards."""
        held = [h for h in stops if self.holdable(h, strength)]
        pairs = [(h, i) for h in held for i in held
                 if self.squared(h, i) <= far ** 2 and self.holds[h][0] <= self.holds[i][0]]
        left = {pair: 0 for pair in pairs if pair == (stops[-1], stops[-1])}
        rim = list(left)
        while rim:
            count = left[rim[0]] + 1
            # One move apart are pairs that have just one hand's hold in common.
            rim = [(h, i) for h, i in pairs if (h, i) not in left and any((h == k) != (i == m) for k, m in rim)]
            left.update({pair: count for pair in rim})
        return left

    def first_way(self, c, stops):
        """The moves, or None; from each pair of hands the first move that brings one nearer is made."""
        far, strength = self.climbers[c][:2]
        left = self.moves_left(stops, far, strength)
        h = i = stops[0]
        assert ((h, i) in left) == self.gets_up(stops, far, strength)
        if (h, i) not in left:
            return None
        moves = []
        while left[h, i] > 0:
            nexts = [((0, k), (k, i)) for k in sorted(stops)] + [((1, k), (h, k)) for k in sorted(stops)]
            move, (h, i) = next((move, hands) for move, hands in nexts if left.get(hands) == left[h, i] - 1)
            moves.append(move)
        return moves

    def way_of(self, c, r):
        return self.first_way(c, self.routes[r][1])

    def can(self, c, r):
        self.ask_for(climbers=[c], routes=[r])
        return [int(self.way_of(c, r) is not None)]

    def fewest(self, c, r):
        return self.way(c, r)[:1]

    def way(self, c, r):
        self.ask_for(climbers=[c], routes=[r])
        moves = self.way_of(c, r)
        refuse(-33, moves is None)
        return [len(moves)] + [number for move in moves for number in move]

    def climb(self, c, r):
        self.ask_for(climbers=[c], routes=[r])
        refuse(-61, self.routes[r][0] > self.climbers[c][2])
        moves = self.way_of(c, r)
        refuse(-33, moves is None)
        before = [one[2] for one in self.holds]
        for hand, h in moves:
            self.holds[h][3] += 1
            if self.holds[h][3] == self.w:
                self.holds[h][2:4] = [max(0, self.holds[h][2] - 1), 0]
        self.climbers[c][3] += 1
        self.climbers[c][4] += len(moves)
        return [len(moves), sum(one[2] < grip for one, grip in zip(self.holds, before))]

    def who(self, r):
        self.ask_for(routes=[r])
        return counted([c for c in range(len(self.climbers)) if self.way_of(c, r)])

    def which(self, c):
        self.ask_for(climbers=[c])
        return counted([r for r in range(len(self.routes)) if self.way_of(c, r)])

    def best(self, c):
        self.ask_for(climbers=[c])
        numbers = self.which(c)[1:]
        refuse(-6, not numbers)
        moves, r = min((-len(self.way_of(c, r)), r) for r in numbers)
        return [r, -moves]

    def reach(self, r):
        self.ask_for(routes=[r])
        enough = [far for far in range(72) if self.gets_up(self.routes[r][1], far, 9)]
        refuse(-33, not enough)
        return enough[:1]

    def strong(self, r):
        self.ask_for(routes=[r])
        enough = [strength for strength in range(1, 10) if self.gets_up(self.routes[r][1], 71, strength)]
        refuse(-33, not enough)
        return enough[:1]

    def needed(self, c, r):
        self.ask_for(climbers=[c], routes=[r])
        far, strength = self.climbers[c][:2]
        stops = self.routes[r][1]
        refuse(-33, not self.gets_up(stops, far, strength))
        return counted([stops[n] for n in range(1, len(stops) - 1)
                        if not self.gets_up(stops[:n] + stops[n + 1:], far, strength)])

    def span(self, h, i):
        self.ask_for(holds=[h, i])
        squared = self.squared(h, i)
        return [squared, min(n for n in range(72) if n ** 2 >= squared)]

    def near(self, c, h):
        self.ask_for(climbers=[c], holds=[h])
        far, strength = self.climbers[c][:2]
        return counted([i for i in range(len(self.holds))
                        if i != h and self.holdable(i, strength) and self.squared(h, i) <= far ** 2])

    def due(self, n):
        refuse(-22, n > 100)
        return counted([h for h, one in enumerate(self.holds) if one[2] >= 1 and self.w - one[3] <= n])

    def look(self, h):
        self.ask_for(holds=[h])
        x, y, grip, hands, on = self.holds[h]
        return [grip, x, y, hands, on]

    def told(self, r):
        self.ask_for(routes=[r])
        lead, stops = self.routes[r]
        return [len(stops)] + stops + [lead]

    def log(self, c):
        self.ask_for(climbers=[c])
        far, strength, lead, climbs, moves = self.climbers[c]
        return [climbs, moves, far, strength, lead]

    def state(self):
        return [self.w, len(self.holds), len(self.routes), len(self.climbers)]


class Draw:
    """Draws calls and has them answered by the second writing, to know what there is.

    Numbers are mostly in range, now and then at an edge of it, just beyond it, or huge.
    """

    def __init__(self, seed):
        self.source = random.Random(seed)
        self.plain = Plain()
        self.calls = []
        self.wanted = []
        # Where it's low, hands have to follow one another along the wall.
        self.width = self.source.choice((4, 8, 14, 25, 51))
        self.height = self.source.choice((1, 2, 4, self.width))
        # Some walls stay small, so that what isn't there is asked for, too.
        self.most_holds = self.source.choice((3, 8, 14, 20, 22))
        self.most_people = self.source.choice((1, 4, 7, 9))
        self.w = self.source.choice((1, 1, 2, 2, 3, 5, 9, 100))

    def number(self, least, most):
        chance = self.source.random()
        if chance < 0.96:
            return self.source.randint(least, most)
        if chance < 0.99:
            return self.source.choice((max(0, least - 1), least, most, most + 1))
        return self.source.choice((0, HUGE))

    def among(self, kept):
        """The number of a hold, a route or a climber."""
        return self.number(0, max(0, len(getattr(self.plain, kept, [])) - 1))

    def place(self):
        if self.source.random() < 0.05:
            return [self.source.choice((0, 1, 49, 50, 51, HUGE)) for _ in range(2)]
        return [self.source.randrange(self.width), self.source.randrange(self.height)]

    def strength(self):
        return self.number(1, 9) if self.source.random() < 0.3 else self.number(5, 9)

    def far(self):
        return self.number(1, 71) if self.source.random() < 0.1 else self.number(1, max(4, self.width // 2))

    def stops(self):
        if self.source.random() < 0.1:
            return [self.among("holds") for _ in range(self.source.randint(0, 12))]
        there = range(len(getattr(self.plain, "holds", [])))
        stops = self.source.sample(there, min(len(there), self.source.choice((2, 3, 4, 5, 6, 7, 8, 8, 8))))
        if self.source.random() < 0.6:
            # From one end to the other: more moves are needed so.
            ends = sorted(stops, key=lambda h: self.plain.holds[h], reverse=self.source.random() < 0.5)
            stops = ends[:1] + self.source.sample(ends[1:-1], len(ends[1:-1])) + ends[1:][-1:]
        return stops if self.source.random() < 0.95 else stops + [len(there)]

    def numbers(self, name):
        if name == "due":
            return [self.source.choice((0, 1, 2, self.w, 100, 101, self.number(0, 100)))]
        # By a letter: p a place, h a hold, r a route, c a climber, g a grip or a strength, f a reach, l lead.
        letters = {"hold": "pg", "shift": "hp", "off": "h", "back": "h", "turn": "hg", "route": "ls", "climber": "fgl",
                   "train": "cg", "who": "r", "which": "c", "reach": "r", "strong": "r", "span": "hh", "near": "ch",
                   "best": "c", "look": "h", "told": "r", "log": "c", "state": ""}
        draws = {"p": self.place, "s": self.stops, "h": lambda: [self.among("holds")],
                 "r": lambda: [self.among("routes")], "c": lambda: [self.among("climbers")],
                 "g": lambda: [self.strength()], "f": lambda: [self.far()], "l": lambda: [self.number(0, 1)]}
        return [number for letter in letters.get(name, "cr") for number in draws[letter]()]

    def make(self, call):
        self.calls.append(call)
        self.wanted.append(self.plain.answer(call))

    def make_named(self, name):
        self.make(MAKERS[NAMES.index(name)](*self.numbers(name)))

    def make_any(self):
        name = self.source.choice(NAMES + ["climb", "back"] * 6)
        if name == "begin":
            # One that isn't refused leaves nothing, so it's drawn elsewhere, and rarely.
            self.make(begin(self.source.choice((0, 101, HUGE))))
        else:
            self.make_named(name)

    def set_up(self):
        self.make(begin(self.w))
        names = ["hold"] * self.most_holds + ["route", "climber"] * self.most_people
        if self.source.random() < 0.1:
            self.source.shuffle(names)
        for name in names:
            self.make_named(name)

    def make_line(self, count):
        for _ in range(self.source.choice((0, 0, 20))):
            self.make_any()
        self.set_up()
        while len(self.calls) < count:
            if self.source.random() < 0.004:
                self.set_up()
            else:
                self.make_any()
        return self.calls[:count], self.wanted[:count]


class TestAgainstSecondWriting(unittest.TestCase):
    def test_long_lists_of_all_calls(self):
        met = {}
        for seed in range(120):
            calls, wanted = Draw(seed).make_line(400)
            for at, given in enumerate(run(calls)):
                self.assertEqual(given, wanted[at], (seed, at, calls[at]))
                met[NAMES[calls[at][0]], min(given[0], 0)] = True
        all_there_are = {(name, number) for name in NAMES for number in REFUSALS[name] + [0]}
        all_there_are |= {(name, -11) for name in NAMES if name != "begin"}
        self.assertEqual(set(met), all_there_are)

    def test_short_lists(self):
        for seed in range(1000, 1400):
            calls, wanted = Draw(seed).make_line(random.Random(seed).randint(1, 60))
            self.assertEqual(run(calls), wanted, seed)


class TestWhatHolds(unittest.TestCase):
    """The program held against itself: c and d by can, b and f over all climbers and routes."""

    def walls(self, first_seed, count):
        for seed in range(first_seed, first_seed + count):
            draw = Draw(seed)
            draw.set_up()
            for name in ("off", "climb", "climb", "climb", "off"):
                draw.make_named(name)
            yield draw.calls, run(draw.calls + [state()])[-1]

    def every(self, calls, asked):
        return run(calls + asked)[len(calls):]

    def test_by_the_least_reach_one_gets_up_and_by_less_one_does_not(self):
        met = {}
        for calls, (w, holds, routes, climbers) in self.walls(5000, 400):
            for r, (least,) in enumerate(self.every(calls, [reach(r) for r in range(routes)])):
                self.assertEqual(self.able(calls, w, r, [(far, 9) for far in range(1, 72)]),
                                 [] if least == -33 else list(range(least, 72)), (calls, r))
                met[least] = True
        self.assertTrue({-33, 1, 2, 3, 4, 5} <= set(met))

    def test_by_the_least_strength_one_gets_up_and_by_less_one_does_not(self):
        met = {}
        for calls, (w, holds, routes, climbers) in self.walls(6000, 400):
            for r, (least,) in enumerate(self.every(calls, [strong(r) for r in range(routes)])):
                able = self.able(calls, w, r, [(71, strength) for strength in range(1, 10)])
                self.assertEqual(len(able), 0 if least == -33 else 10 - least, (calls, r))
                met[least] = True
        self.assertEqual(sorted(met), [-33] + list(range(1, 10)))

    def able(self, calls, w, r, people):
        """The reaches of those who get up the route, on a wall built once more as it looks, eight people at once."""
        looks = self.every(calls, [look(h) for h in range(20)])
        stops = self.every(calls, [told(r)])[0][1:-1]
        built = [begin(w)]
        for h, one in enumerate(one for one in looks if one != [-2]):
            grip, x, y, hands, on = one
            # A grip of 0 can't be made; nobody holds it, as if the hold were off.
            built += [hold(x, y, max(1, grip))] + ([] if on and grip else [off(h)])
        reaches = []
        for at in range(0, len(people), 8):
            some = people[at:at + 8]
            asked = [climber(far, strength, 0) for far, strength in some] + [can(c, 0) for c in range(len(some))]
            given = run(built + [route(0, *stops)] + asked)[-len(some):]
            reaches += [far for (far, strength), one in zip(some, given) if one == [1]]
        return reaches

    def test_without_a_needed_hold_there_is_no_way_and_without_another_one_there_is(self):
        met = {}
        for calls, (w, holds, routes, climbers) in self.walls(7000, 300):
            for c in range(climbers):
                for r in range(routes):
                    given, tale = self.every(calls, [needed(c, r), told(r)])
                    if given == [-33]:
                        continue
                    met[given[0]] = True
                    for h in tale[2:-2]:
                        on = run(calls + [look(h)])[-1][-1]
                        able = run(calls + ([off(h)] if on else []) + [can(c, r)])[-1]
                        self.assertEqual(able, [int(h not in given[1:])], (calls, c, r, h))
        self.assertTrue({0, 1, 2, 3} <= set(met))

    def test_who_reaches_further_or_is_stronger_gets_up_where_another_does(self):
        for calls, (w, holds, routes, climbers) in self.walls(8000, 200):
            logs = self.every(calls, [log(c) for c in range(climbers)])
            for r in range(routes):
                few = [one[0] for one in self.every(calls, [fewest(c, r) for c in range(climbers)])]
                able = self.every(calls, [who(r)])[0][1:]
                self.assertEqual(able, [c for c in range(climbers) if few[c] > 0])
                for c in able:
                    for d in range(climbers):
                        if logs[d][2] >= logs[c][2] and logs[d][3] >= logs[c][3]:
                            self.assertTrue(0 < few[d] <= few[c], (calls, r, c, d))

    def test_no_route_that_one_gets_up_has_more_moves_than_the_best(self):
        for calls, (w, holds, routes, climbers) in self.walls(9000, 300):
            for c in range(climbers):
                few = [one[0] for one in self.every(calls, [fewest(c, r) for r in range(routes)])]
                given, able = self.every(calls, [best(c), which(c)])
                self.assertEqual(able[1:], [r for r in range(routes) if few[r] > 0])
                if not able[1:]:
                    self.assertEqual(given, [-6])
                    continue
                self.assertEqual(given[1], max(few))
                self.assertEqual(given[0], few.index(max(few)))


if __name__ == "__main__":
    unittest.main()
