"""Points 4 and 5: who, which, best, reach, strong, needed."""

import unittest

from tests.helper import (HUGE, WallCase, back, begin, best, climb, climber, hold, needed, off, reach, route, run,
                          shift, strong, train, turn, which, who)

# A ladder of three, and a hold far to the right; route 2 has to be led, climber 3 alone may lead.
HOLDS = [begin(50), hold(10, 10, 9), hold(10, 13, 9), hold(10, 16, 9), hold(20, 10, 5)]
ROUTES = [route(0, 0, 1, 2), route(0, 0, 2), route(1, 0, 1), route(0, 0, 3)]
CLIMBERS = [climber(3, 1, 0), climber(6, 1, 0), climber(2, 9, 0), climber(10, 5, 1)]
WALL = HOLDS + ROUTES + CLIMBERS

# Holds lie from the lowest to the highest as 1, 3, 0, 2.
MIXED = [begin(50), hold(10, 16, 9), hold(10, 10, 9), hold(10, 19, 9), hold(10, 13, 9), route(0, 1, 0, 3, 2)]

# Holds 1 and 3 lie side by side between the first hold and the top.
TWO_WAYS = [begin(2), hold(10, 0, 9), hold(9, 4, 9), hold(10, 8, 9), hold(11, 4, 9), route(0, 0, 3, 1, 2),
            climber(5, 1, 1)]


def pair(first, top, grips=(9, 9), w=50):
    """A route of two holds at the places."""
    places = zip((first, top), grips)
    return [begin(w)] + [hold(x, y, g) for (x, y), g in places] + [route(0, 0, 1)]


class TestWho(WallCase):
    def test_climbers_with_a_way_rising(self):
        self.check_tells(WALL, who(0), [3, 0, 1, 3])
        self.check_tells(WALL, who(1), [2, 1, 3])
        self.check_tells(WALL, who(3), [1, 3])

    def test_led_or_not(self):
        self.check_tells(WALL, who(2), [3, 0, 1, 3])

    def test_none_of_them(self):
        self.check_tells(WALL + [off(0)], who(0), [0])
        self.check_tells(HOLDS + ROUTES, who(0), [0])

    def test_all_eight(self):
        self.check_tells(HOLDS + ROUTES + [climber(71, 9, 0)] * 8, who(1), [8, 0, 1, 2, 3, 4, 5, 6, 7])

    def test_holds_as_they_are_now(self):
        self.check_tells(WALL + [off(1)], who(0), [2, 1, 3])
        self.check_tells(WALL + [off(1), back(1)], who(0), [3, 0, 1, 3])
        self.check_tells(WALL + [shift(2, 10, 17)], who(0), [2, 1, 3])
        self.check_tells(WALL + [turn(2, 5)], who(0), [1, 3])
        self.check_tells(WALL + [turn(2, 5), train(1, 5)], who(0), [2, 1, 3])

    def test_no_such(self):
        self.check_all_refused(WALL, [who(4), who(6), who(HUGE)], -2)
        self.check_all_refused(HOLDS + CLIMBERS, [who(0)], -2)
        self.check_all_refused([begin(1)], [who(0), who(HUGE)], -2)


class TestWhich(WallCase):
    def test_routes_with_a_way_rising(self):
        self.check_tells(WALL, which(1), [3, 0, 1, 2])
        self.check_tells(WALL, which(3), [4, 0, 1, 2, 3])

    def test_led_or_not(self):
        self.check_tells(WALL, which(0), [2, 0, 2])

    def test_none_of_them(self):
        self.check_tells(WALL, which(2), [0])
        self.check_tells(HOLDS + CLIMBERS, which(0), [0])

    def test_all_six(self):
        self.check_tells(HOLDS + [route(1, 0, 3)] * 6 + [climber(10, 5, 0)], which(0), [6, 0, 1, 2, 3, 4, 5])

    def test_holds_as_they_are_now(self):
        self.check_tells(WALL + [off(1)], which(1), [2, 0, 1])
        self.check_tells(WALL + [off(1)], which(0), [0])
        self.check_tells(WALL + [turn(3, 9), shift(3, 11, 10)], which(0), [3, 0, 2, 3])

    def test_no_such(self):
        self.check_all_refused(WALL, [which(4), which(8), which(HUGE)], -2)
        self.check_all_refused(HOLDS + ROUTES, [which(0)], -2)
        self.check_all_refused([begin(1)], [which(0), which(HUGE)], -2)


class TestBest(WallCase):
    # By reach 3: of 4, 2, 3 and 4 moves, and one that's too far.
    STEPS = [begin(50), hold(10, 10, 9), hold(10, 13, 9), hold(10, 16, 9), hold(10, 19, 9), hold(30, 30, 9)]

    def wall(self, *routes):
        return self.STEPS + [route(1, *stops) for stops in routes] + [climber(3, 1, 0)]

    def test_the_most_of_the_fewest_moves(self):
        self.check_tells(WALL, best(0), [0, 3])
        self.check_tells(self.wall([0, 1], [0, 1, 2], [0, 1, 2, 3]), best(0), [2, 4])
        self.check_tells(self.wall([0, 1], [0, 1, 2, 3], [0, 1, 2]), best(0), [1, 4])
        self.check_tells(self.wall([0, 1, 2, 3], [0, 1], [0, 1, 2]), best(0), [0, 4])

    def test_of_alike_ones_the_first(self):
        self.check_tells(WALL, best(1), [0, 2])
        self.check_tells(self.wall([0, 1], [0, 1, 2], [3, 2, 1], [1, 2]), best(0), [1, 3])
        self.check_tells(self.wall([0, 1, 2], [0, 1], [3, 2, 1]), best(0), [0, 3])
        self.check_tells(self.wall([0, 1], [0, 2], [1, 0], [2, 3]), best(0), [0, 2])

    def test_a_route_without_a_way_does_not_count(self):
        self.check_tells(self.wall([0, 4], [0, 1], [0, 1, 2, 3, 4]), best(0), [1, 2])
        self.check_tells(self.wall([0, 1], [0, 1, 2, 3]) + [off(2)], best(0), [0, 2])

    def test_by_the_climber_who_is_asked_for(self):
        self.check_tells(self.wall([0, 1], [0, 1, 2, 3]) + [climber(71, 9, 0)], best(1), [0, 2])

    def test_none(self):
        self.check_refused(WALL, best(2), -6)
        self.check_refused(WALL + [off(0)], best(3), -6)
        self.check_refused(HOLDS + CLIMBERS, best(0), -6)
        self.check_refused([begin(1), climber(1, 1, 1)], best(0), -6)

    def test_no_such_comes_first(self):
        self.check_all_refused(WALL, [best(4), best(8), best(HUGE)], -2)
        self.check_all_refused(HOLDS + ROUTES, [best(0)], -2)
        self.check_all_refused([begin(1)], [best(0), best(HUGE)], -2)


class TestReach(WallCase):
    def test_a_route_of_two(self):
        for first, top, least in [((0, 0), (3, 4), 5), ((3, 4), (0, 0), 5), ((0, 0), (3, 5), 6), ((0, 0), (4, 4), 6),
                                  ((0, 0), (1, 1), 2), ((9, 9), (9, 39), 30), ((0, 0), (50, 0), 50),
                                  ((7, 1), (0, 0), 8), ((10, 10), (10, 12), 2)]:
            with self.subTest(first=first, top=top):
                self.check_tells(pair(first, top), reach(0), [least])

    def test_by_none_of_0_as_no_two_holds_are_at_one_place(self):
        for top in ((10, 11), (11, 10), (9, 10), (10, 9)):
            self.check_tells(pair((10, 10), top), reach(0), [1])
        row = [begin(1)] + [hold(n, 0, 1) for n in range(8)] + [route(0, *range(8))]
        self.check_tells(row, reach(0), [1])

    def test_71_is_enough_for_the_furthest(self):
        self.check_tells(pair((0, 0), (50, 50)), reach(0), [71])
        self.check_tells(pair((50, 0), (0, 50)), reach(0), [71])
        self.check_tells(pair((0, 0), (50, 48)), reach(0), [70])

    def test_the_widest_step_counts_not_the_whole(self):
        wall = [begin(9), hold(5, 0, 9), hold(5, 5, 9), hold(5, 12, 9), hold(5, 14, 9)]
        self.check_tells(wall + [route(0, 0, 1, 2, 3)], reach(0), [7])
        self.check_tells(wall + [route(0, 0, 2, 3)], reach(0), [12])
        self.check_tells(wall + [route(0, 3, 2, 1, 0)], reach(0), [7])
        self.check_tells(MIXED, reach(0), [3])

    def test_the_easier_of_two_ways(self):
        wall = [begin(9), hold(10, 0, 9), hold(10, 8, 9), hold(13, 4, 9), hold(10, 6, 9), route(0, 0, 2, 3, 1)]
        self.check_tells(wall, reach(0), [5])
        self.check_tells(wall + [off(2)], reach(0), [6])
        self.check_tells(wall + [off(2), off(3)], reach(0), [8])

    def test_holds_of_other_routes_do_not_help(self):
        self.check_tells(HOLDS + ROUTES, reach(0), [3])
        self.check_tells(HOLDS + ROUTES, reach(1), [6])
        self.check_tells(HOLDS + ROUTES, reach(3), [10])

    def test_somebody_of_strength_9(self):
        self.check_tells(pair((0, 0), (3, 4), (1, 1)), reach(0), [5])
        self.check_tells(pair((0, 0), (3, 4), (1, 1)) + [climber(1, 1, 0)], reach(0), [5])

    def test_led_or_not(self):
        self.check_tells(HOLDS + ROUTES, reach(2), [3])

    def test_none_up_to_71(self):
        wall = pair((0, 0), (3, 4))
        self.check_refused(wall + [off(0)], reach(0), -33)
        self.check_refused(wall + [off(1)], reach(0), -33)
        self.check_tells(wall + [off(1), back(1)], reach(0), [5])

    def test_a_grip_that_has_worn_to_0(self):
        top = pair((5, 5), (5, 8), (1, 1), w=2) + [climber(9, 9, 0)]
        self.check_tells(top, reach(0), [3])
        self.check_refused(top + [climb(0, 0)], reach(0), -33)
        self.check_tells(top + [climb(0, 0), turn(1, 1)], reach(0), [3])
        first = top + [route(0, 1, 0)]
        self.check_refused(first + [climb(0, 0)], reach(1), -33)

    def test_a_hold_between_that_is_off_or_worn(self):
        self.check_tells(HOLDS + ROUTES + [off(1)], reach(0), [6])
        worn = [begin(2), hold(10, 10, 1), hold(10, 13, 1), hold(10, 16, 1), route(0, 0, 1, 2), route(0, 0, 1),
                climber(3, 9, 0)]
        self.check_tells(worn, reach(0), [3])
        self.check_tells(worn + [climb(0, 1)], reach(0), [6])

    def test_no_such(self):
        self.check_all_refused(WALL + [off(0)], [reach(4), reach(6), reach(HUGE)], -2)
        self.check_all_refused([begin(1)], [reach(0), reach(HUGE)], -2)


class TestStrong(WallCase):
    def test_the_worse_of_first_and_top(self):
        for first in range(1, 10):
            for top in range(1, 10):
                with self.subTest(first=first, top=top):
                    given = run(pair((3, 3), (9, 9), (first, top)) + [strong(0)])[-1]
                    self.assertEqual(given, [10 - min(first, top)])

    def test_1_and_9_change_nothing(self):
        self.check_tells(pair((3, 3), (9, 9)), strong(0), [1])
        self.check_tells(pair((3, 3), (9, 9), (9, 1)), strong(0), [9])
        self.check_tells(pair((3, 3), (9, 9), (1, 9)), strong(0), [9])

    def test_reach_71_passes_by_holds_between(self):
        corners = [begin(9), hold(0, 0, 8), hold(25, 25, 1), hold(50, 50, 7), route(0, 0, 1, 2)]
        self.check_tells(corners, strong(0), [3])
        self.check_tells(corners + [off(1)], strong(0), [3])

    def test_whoever_there_is(self):
        self.check_tells(pair((0, 0), (50, 50), (5, 6)) + [climber(1, 9, 0)], strong(0), [5])

    def test_led_or_not(self):
        self.check_tells(HOLDS + ROUTES, strong(2), [1])

    def test_as_grips_are_now(self):
        wall = pair((5, 5), (5, 8), (9, 9), w=2) + [climber(9, 9, 0)]
        self.check_tells(wall + [climb(0, 0)], strong(0), [2])
        self.check_tells(wall + [climb(0, 0)] * 8, strong(0), [9])
        self.check_refused(wall + [climb(0, 0)] * 9, strong(0), -33)
        self.check_tells(wall + [climb(0, 0)] * 9 + [turn(1, 4)], strong(0), [6])

    def test_none(self):
        wall = pair((3, 3), (9, 9))
        self.check_refused(wall + [off(0)], strong(0), -33)
        self.check_refused(wall + [off(1)], strong(0), -33)
        self.check_tells(wall + [off(0), back(0)], strong(0), [1])

    def test_no_such(self):
        self.check_all_refused(WALL + [off(0)], [strong(4), strong(6), strong(HUGE)], -2)
        self.check_all_refused([begin(1)], [strong(0), strong(HUGE)], -2)


class TestNeeded(WallCase):
    def test_a_ladder(self):
        self.check_tells(WALL, needed(0, 0), [1, 1])
        self.check_tells(WALL, needed(1, 0), [0])

    def test_a_route_of_two(self):
        self.check_tells(WALL, needed(1, 1), [0])
        self.check_tells(WALL, needed(3, 3), [0])

    def test_led_or_not(self):
        self.check_tells(HOLDS + [route(1, 0, 1, 2), climber(3, 1, 0)], needed(0, 0), [1, 1])

    def test_told_in_another_order_than_they_lie(self):
        self.check_tells(MIXED + [climber(3, 1, 0)], needed(0, 0), [2, 0, 3])
        self.check_tells(MIXED + [climber(6, 1, 0)], needed(0, 0), [0])
        told_down = [begin(50), hold(10, 10, 9), hold(10, 13, 9), hold(10, 16, 9), hold(10, 19, 9),
                     route(0, 0, 2, 1, 3), climber(3, 1, 0)]
        self.check_tells(told_down, needed(0, 0), [2, 1, 2])

    def test_two_ways_so_that_none_is_needed(self):
        self.check_tells(TWO_WAYS, needed(0, 0), [0])

    def test_the_other_one_is_off_so_that_this_one_is_needed(self):
        self.check_tells(TWO_WAYS + [off(1)], needed(0, 0), [1, 3])
        self.check_tells(TWO_WAYS + [off(3)], needed(0, 0), [1, 1])
        self.check_tells(TWO_WAYS + [off(3), back(3)], needed(0, 0), [0])
        self.check_refused(TWO_WAYS + [off(1), off(3)], needed(0, 0), -33)

    def test_the_other_one_cannot_be_held(self):
        self.check_tells(TWO_WAYS + [turn(1, 8)], needed(0, 0), [1, 3])
        self.check_tells(TWO_WAYS + [turn(1, 8), train(0, 2)], needed(0, 0), [0])

    def test_the_other_one_has_worn_to_0(self):
        worn = TWO_WAYS + [turn(1, 1), route(0, 0, 1), train(0, 9), climb(0, 1)]
        self.check_tells(worn, needed(0, 0), [1, 3])
        self.check_tells(worn[:-1], needed(0, 0), [0])

    def test_one_is_needed_below_a_choice_of_two(self):
        wall = [begin(2), hold(10, 0, 9), hold(10, 4, 9), hold(9, 8, 9), hold(10, 12, 9), hold(11, 8, 9),
                route(0, 0, 1, 4, 2, 3), climber(5, 1, 0)]
        self.check_tells(wall, needed(0, 0), [1, 1])

    def test_all_six_between(self):
        row = [begin(1)] + [hold(3 * n, 7, 9) for n in range(8)] + [route(0, 7, 1, 2, 3, 4, 5, 6, 0), climber(3, 1, 0)]
        self.check_tells(row, needed(0, 0), [6, 1, 2, 3, 4, 5, 6])

    def test_no_way(self):
        self.check_refused(WALL, needed(2, 0), -33)
        self.check_refused(WALL, needed(0, 1), -33)
        self.check_refused(WALL + [off(2)], needed(0, 0), -33)
        self.check_refused(WALL + [off(0)], needed(0, 0), -33)
        self.check_refused(WALL + [off(1)], needed(0, 0), -33)

    def test_no_such_comes_first(self):
        calls = [needed(4, 0), needed(0, 4), needed(4, 4), needed(HUGE, 0), needed(0, HUGE), needed(HUGE, HUGE)]
        self.check_all_refused(WALL + [off(0)], calls, -2)
        self.check_all_refused(HOLDS + ROUTES, [needed(0, 0)], -2)
        self.check_all_refused(HOLDS + CLIMBERS, [needed(0, 0)], -2)
        self.check_all_refused([begin(1)], [needed(0, 0)], -2)


if __name__ == "__main__":
    unittest.main()
