"""can, fewest, way and climb held against plain searches, on many walls drawn from a fixed seed."""

import random
import unittest

from tests.helper import begin, can, climb, climber, fewest, hold, off, route, run, turn, way

LONGEST_SHORT_WAY = 6


class Drawn:
    """A wall drawn at random, with one route and one climber."""

    def __init__(self, source, most_stops, size, height=None):
        count = source.randint(most_stops, 12)
        free = [(x, y) for x in range(size) for y in range(height or size)]
        self.places = source.sample(free, count)
        self.grips = [source.choice((3, 5, 7, 8, 9)) for _ in range(count)]
        self.on = [source.random() < 0.95 for _ in range(count)]
        self.stops = source.sample(range(count), source.choice((2, 3, most_stops - 1, most_stops, most_stops)))
        if source.random() < 0.7:
            # From one end to the other: more moves are needed so.
            ends = sorted(self.stops, key=lambda h: self.places[h], reverse=source.random() < 0.5)
            between = source.sample(ends[1:-1], len(ends) - 2)
            self.stops = ends[:1] + between + ends[-1:]
        self.reach = source.randint(2, 2 + size // 3)
        self.strength = source.choice((1, 3, 5, 7, 9, 9, 9, 9))
        self.w = source.randint(1, 4)

    def calls(self, reach=None, strength=None):
        calls = [begin(self.w)] + [hold(x, y, g) for (x, y), g in zip(self.places, self.grips)]
        calls += [off(h) for h, on in enumerate(self.on) if not on]
        return calls + [route(0, *self.stops), climber(reach or self.reach, strength or self.strength, 0)]

    def can_hold(self, h):
        return self.on[h] and self.grips[h] + self.strength >= 10

    def near(self, h, i):
        (hx, hy), (ix, iy) = self.places[h], self.places[i]
        return (hx - ix) ** 2 + (hy - iy) ** 2 <= self.reach ** 2

    def can_be(self, left, right):
        return self.near(left, right) and self.places[left][0] <= self.places[right][0]

    def is_way(self, moves):
        """Whether the moves, made one by one, are a way up."""
        left = right = self.stops[0]
        if not self.can_hold(left):
            return False
        for hand, h in moves:
            if h == (left, right)[hand] or h not in self.stops or not self.can_hold(h):
                return False
            left, right = (h, right) if hand == 0 else (left, h)
            if not self.can_be(left, right):
                return False
        return left == right == self.stops[-1]

    def ways_of(self, count, left, right):
        """All ways with just so many moves from here, in their order."""
        if count == 0:
            if left == right == self.stops[-1]:
                yield []
            return
        for hand in (0, 1):
            for h in sorted(self.stops):
                after = (h, right) if hand == 0 else (left, h)
                if h != (left, right)[hand] and self.can_hold(h) and self.can_be(*after):
                    for rest in self.ways_of(count - 1, *after):
                        yield [(hand, h)] + rest

    def first_short_way(self):
        start = self.stops[0]
        if not self.can_hold(start):
            return None
        for count in range(LONGEST_SHORT_WAY + 1):
            for moves in self.ways_of(count, start, start):
                return moves
        return None

    def is_linked(self):
        """Whether the top is reached from the first hold by steps from hold to hold.

        One gets up just where this holds: both hands can follow each step, one behind the other.
        """
        met = [h for h in self.stops[:1] if self.can_hold(h)]
        for h in met:
            met += [i for i in self.stops if i not in met and self.can_hold(i) and self.near(h, i)]
        return self.stops[-1] in met


def moves_of(told):
    return list(zip(told[1::2], told[2::2]))


class TestAgainstPlainSearch(unittest.TestCase):
    def test_first_way_among_all_short_ways(self):
        source = random.Random(20)
        met = {}
        for _ in range(4000):
            # Low walls make long ways: hands follow one another along them.
            drawn = Drawn(source, 5, source.choice((4, 6, 12)), source.choice((3, None)))
            able, few, told = run(drawn.calls() + [can(0, 0), fewest(0, 0), way(0, 0)])[-3:]
            wanted = drawn.first_short_way()
            if wanted is None:
                self.assertTrue(told == [-33] or told[0] > LONGEST_SHORT_WAY, drawn.calls())
            else:
                self.assertEqual(told, [len(wanted)] + [n for move in wanted for n in move], drawn.calls())
                self.assertEqual((able, few), ([1], [len(wanted)]))
                met[len(wanted)] = True
        self.assertEqual(sorted(met), [2, 3, 4, 5, 6])

    def test_who_is_linked_has_a_way_and_nobody_else(self):
        source = random.Random(21)
        for _ in range(3000):
            drawn = Drawn(source, 8, source.choice((5, 8, 12, 51)))
            able, few, told = run(drawn.calls() + [can(0, 0), fewest(0, 0), way(0, 0)])[-3:]
            if drawn.is_linked():
                self.assertEqual(able, [1])
                self.assertEqual(few, told[:1])
                self.assertEqual(len(told), 1 + 2 * told[0])
                self.assertTrue(drawn.is_way(moves_of(told)), drawn.calls())
            else:
                self.assertEqual((able, few, told), ([0], [-33], [-33]), drawn.calls())

    def test_the_order_in_which_a_route_is_told_between_changes_nothing(self):
        source = random.Random(22)
        for _ in range(300):
            drawn = Drawn(source, 8, 8)
            first = run(drawn.calls() + [way(0, 0)])[-1]
            between = drawn.stops[1:-1]
            source.shuffle(between)
            drawn.stops = drawn.stops[:1] + between + drawn.stops[-1:]
            self.assertEqual(run(drawn.calls() + [way(0, 0)])[-1], first)


class TestWhatHolds(unittest.TestCase):
    def test_further_reach_or_more_strength_needs_no_more_moves(self):
        source = random.Random(23)
        for _ in range(1000):
            drawn = Drawn(source, 8, 9)
            few = run(drawn.calls() + [fewest(0, 0)])[-1][0]
            if few < 0:
                continue
            reach = source.randint(drawn.reach, 71)
            strength = source.randint(drawn.strength, 9)
            more = run(drawn.calls(reach, strength) + [fewest(0, 0)])[-1][0]
            self.assertTrue(2 <= more <= few, (drawn.calls(), reach, strength))

    def test_each_hand_wears_the_hold_on_which_it_is_put_and_no_other(self):
        source = random.Random(24)
        for _ in range(600):
            drawn = Drawn(source, 8, 8)
            self.check_wear(drawn, source.randint(1, 4))

    def check_wear(self, drawn, climbs):
        count = len(drawn.places)
        told = run(drawn.calls() + [way(0, 0), climb(0, 0)] * climbs + [turn(h, 9) for h in range(count)])
        told = told[-count - 2 * climbs:]
        grips, hands = list(drawn.grips), [0] * count
        for n in range(climbs):
            path, climbed = told[2 * n], told[2 * n + 1]
            if path == [-33]:
                self.assertEqual(climbed, [-33])
                continue
            before = list(grips)
            for _, h in moves_of(path):
                hands[h] += 1
                if hands[h] == drawn.w:
                    grips[h], hands[h] = max(0, grips[h] - 1), 0
            fallen = len([h for h in range(count) if grips[h] < before[h]])
            self.assertEqual(climbed, [path[0], fallen])
        self.assertEqual(told[-count:], [[g, n] for g, n in zip(grips, hands)])


if __name__ == "__main__":
    unittest.main()
