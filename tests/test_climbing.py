"""Point 3: can, fewest, way, climb; and each row of "Where it usually breaks"."""

import unittest

from tests.helper import (HUGE, WallCase, back, begin, can, climb, climber, fewest, hold, off, route, run, shift,
                          train, turn, way)

LADDER = [begin(50), hold(10, 10, 9), hold(10, 13, 9), hold(10, 16, 9), route(0, 0, 1, 2), climber(3, 1, 0)]


def wall_of(places, stops, reach, w=50):
    """Holds of grip 9 at the places, one route along the stops, a climber of strength 1."""
    return [begin(w)] + [hold(x, y, 9) for x, y in places] + [route(0, *stops), climber(reach, 1, 0)]


class AscentCase(WallCase):
    def check_way(self, wall, moves):
        told = [number for move in moves for number in move]
        self.assertEqual(run(wall + [can(0, 0), fewest(0, 0), way(0, 0), climb(0, 0)])[-4:-1],
                         [[1], [len(moves)], [len(moves)] + told])
        self.assertEqual(run(wall + [climb(0, 0)])[-1][0], len(moves))

    def check_no_way(self, wall):
        self.assertEqual(run(wall + [can(0, 0)])[-1], [0])
        for call in (fewest(0, 0), way(0, 0), climb(0, 0)):
            self.check_refused(wall, call, -33)


class TestWay(AscentCase):
    def test_two_holds_one_above_the_other(self):
        self.check_way(LADDER, [(0, 1), (1, 2), (0, 2)])

    def test_hands_would_cross(self):
        # With crossing the left hand would go first.
        self.check_way(wall_of([(10, 10), (12, 13), (10, 16)], [0, 1, 2], 4), [(1, 1), (0, 2), (1, 2)])
        self.check_way(wall_of([(10, 10), (8, 13), (10, 16)], [0, 1, 2], 4), [(0, 1), (1, 2), (0, 2)])

    def test_along_a_row_hands_do_not_pass_one_another(self):
        places = [(0, 0), (5, 0), (10, 0)]
        self.check_way(wall_of(places, [0, 1, 2], 5), [(1, 1), (0, 1), (1, 2), (0, 2)])
        self.check_way(wall_of(places, [2, 1, 0], 5), [(0, 1), (1, 1), (0, 0), (1, 0)])

    def test_a_reach_that_is_just_as_far(self):
        places = [(0, 0), (3, 4)]
        self.check_way(wall_of(places, [0, 1], 5), [(1, 1), (0, 1)])
        self.check_no_way(wall_of(places, [0, 1], 4))
        self.check_no_way(wall_of([(0, 0), (3, 5)], [0, 1], 5))
        self.check_way(wall_of([(0, 0), (3, 5)], [0, 1], 6), [(1, 1), (0, 1)])

    def test_reach_1_and_71(self):
        self.check_way(wall_of([(0, 0), (0, 1)], [0, 1], 1), [(0, 1), (1, 1)])
        self.check_no_way(wall_of([(0, 0), (1, 1)], [0, 1], 1))
        corners = [(0, 0), (50, 50)]
        # Asked by ways alone: the calls that reveal a wall take the places near the edge.
        self.assertEqual(run(wall_of(corners, [0, 1], 71) + [way(0, 0)])[-1], [2, 1, 1, 0, 1])
        self.assertEqual(run(wall_of(corners, [1, 0], 71) + [way(0, 0)])[-1], [2, 0, 0, 1, 0])
        self.assertEqual(run(wall_of(corners, [0, 1], 70) + [way(0, 0), can(0, 0)])[-2:], [[-33], [0]])

    def test_grip_and_strength_of_10_together(self):
        for grip in range(1, 10):
            for strength in range(1, 10):
                with self.subTest(grip=grip, strength=strength):
                    wall = [begin(9), hold(0, 0, grip), hold(0, 1, grip), route(0, 0, 1), climber(1, strength, 0)]
                    self.assertEqual(run(wall + [can(0, 0)])[-1], [1 if grip + strength >= 10 else 0])

    def test_a_hold_that_is_off_and_back(self):
        self.check_no_way(LADDER + [off(1)])
        self.check_way(LADDER + [off(1), back(1)], [(0, 1), (1, 2), (0, 2)])
        self.check_no_way(LADDER + [off(2)])

    def test_another_way_round_a_hold_that_is_off(self):
        wall = wall_of([(10, 0), (9, 4), (10, 8), (8, 4)], [0, 1, 3, 2], 5)
        self.check_way(wall, [(0, 1), (1, 2), (0, 2)])
        self.check_way(wall + [off(1)], [(0, 3), (1, 2), (0, 2)])
        self.check_way(wall + [off(1), back(1)], [(0, 1), (1, 2), (0, 2)])

    def test_a_first_hold_that_cannot_be_held(self):
        self.check_no_way(LADDER + [off(0)])
        self.check_no_way(LADDER + [turn(0, 8)])
        self.check_way(LADDER + [turn(0, 8), train(0, 2)], [(0, 1), (1, 2), (0, 2)])

    def test_a_top_or_a_hold_between_that_cannot_be_held(self):
        self.check_no_way(LADDER + [turn(2, 8)])
        self.check_no_way(LADDER + [turn(1, 8)])

    def test_a_top_that_is_lower_than_the_beginning(self):
        down = [begin(50), hold(10, 10, 9), hold(10, 13, 9), hold(10, 16, 9), route(0, 2, 1, 0), climber(3, 1, 0)]
        self.check_way(down, [(0, 1), (1, 0), (0, 0)])

    def test_a_route_of_two(self):
        self.check_way(wall_of([(5, 5), (4, 8)], [0, 1], 4), [(0, 1), (1, 1)])
        self.check_way(wall_of([(5, 5), (6, 8)], [0, 1], 4), [(1, 1), (0, 1)])
        self.check_way(wall_of([(5, 5), (5, 8)], [0, 1], 4), [(0, 1), (1, 1)])

    def test_both_hands_moved_onto_one_hold(self):
        self.check_way(wall_of([(0, 0), (4, 0), (8, 0), (12, 0)], [0, 1, 2, 3], 4),
                       [(1, 1), (0, 1), (1, 2), (0, 2), (1, 3), (0, 3)])

    def test_holds_told_in_another_order_than_they_lie(self):
        places = [(10, 16), (10, 10), (10, 19), (10, 13)]
        self.check_way(wall_of(places, [1, 0, 3, 2], 3), [(0, 3), (1, 0), (0, 2), (1, 2)])
        self.check_way(wall_of(places, [1, 3, 0, 2], 3), [(0, 3), (1, 0), (0, 2), (1, 2)])

    def test_the_lesser_hold_is_the_one_of_the_lesser_number(self):
        places = [(10, 0), (10, 8), (9, 4), (8, 4)]
        for stops in ([0, 3, 2, 1], [0, 2, 3, 1]):
            with self.subTest(stops=stops):
                self.check_way(wall_of(places, stops, 5), [(0, 2), (1, 1), (0, 1)])

    def test_the_first_hold_needs_no_lesser_number(self):
        self.check_way(wall_of([(5, 9), (5, 6), (5, 3)], [2, 1, 0], 9), [(0, 0), (1, 0)])

    def test_holds_that_are_not_the_route_s_are_not_used(self):
        wall = LADDER + [hold(10, 19, 9), route(0, 0, 2), route(0, 0, 3)]
        self.assertEqual(run(wall + [can(0, 1), can(0, 2), can(0, 0)])[-3:], [[0], [0], [1]])

    def test_the_fewest_moves_pass_by_holds(self):
        self.check_way(LADDER[:-1] + [climber(6, 1, 0)], [(0, 2), (1, 2)])

    def test_shifted_holds_lie_where_they_are(self):
        self.check_no_way(LADDER + [shift(1, 14, 13)])

    def test_a_way_of_eight_holds(self):
        places = [(7 * n, 0) for n in range(7)] + [(42, 7)]
        moves = [(hand, n) for n in range(1, 6) for hand in (1, 0)] + [(1, 6), (0, 7), (1, 7)]
        self.check_way(wall_of(places, list(range(8)), 7), moves)


class TestLeading(AscentCase):
    WALL = [begin(50), hold(1, 1, 9), hold(1, 3, 9), hold(1, 20, 9), route(1, 0, 1), route(0, 0, 1), route(1, 0, 2),
            climber(5, 5, 0), climber(5, 5, 1)]

    def test_can_fewest_and_way_led_or_not(self):
        for call, told in ((can, [1]), (fewest, [2]), (way, [2, 0, 1, 1, 1])):
            for c in (0, 1):
                for r in (0, 1):
                    self.assertEqual(run(self.WALL + [call(c, r)])[-1], told)

    def test_it_has_to_be_led(self):
        self.check_refused(self.WALL, climb(0, 0), -61)
        self.assertEqual(run(self.WALL + [climb(1, 0), climb(0, 1), climb(1, 1)])[-3:], [[2, 0]] * 3)

    def test_it_has_to_be_led_comes_before_no_way(self):
        self.check_refused(self.WALL, climb(0, 2), -61)
        self.check_refused(self.WALL, climb(1, 2), -33)
        self.assertEqual(run(self.WALL + [can(0, 2), fewest(0, 2), way(0, 2)])[-3:], [[0], [-33], [-33]])


class TestNoSuch(AscentCase):
    def test_climber_or_route(self):
        wall = LADDER + [off(0)]
        for call in (can, fewest, way, climb):
            calls = [call(1, 0), call(0, 1), call(1, 1), call(HUGE, 0), call(0, HUGE), call(HUGE, HUGE), call(8, 6)]
            self.check_all_refused(wall, calls, -2)

    def test_no_such_comes_before_it_has_to_be_led(self):
        self.check_all_refused(TestLeading.WALL, [climb(2, 0), climb(0, 3)], -2)

    def test_nobody_and_nothing(self):
        for call in (can, fewest, way, climb):
            self.check_refused([begin(1)], call(0, 0), -2)


class TestWear(AscentCase):
    def wall(self, w, grip, strength):
        return [begin(w), hold(5, 5, grip), hold(5, 8, grip), hold(9, 9, grip), route(0, 0, 1),
                climber(3, strength, 0)]

    def after(self, wall, calls):
        return run(wall + calls)[len(wall):]

    def test_hands_are_counted_but_not_at_the_beginning(self):
        self.assertEqual(self.after(self.wall(100, 9, 9), [climb(0, 0), turn(0, 9), turn(1, 9), turn(2, 9)]),
                         [[2, 0], [9, 0], [9, 2], [9, 0]])

    def test_the_grip_falls_by_as_many_as_told(self):
        self.assertEqual(self.after(self.wall(2, 9, 9), [climb(0, 0), turn(1, 9)]), [[2, 1], [8, 0]])
        self.assertEqual(self.after(self.wall(4, 9, 9), [climb(0, 0), climb(0, 0), turn(1, 9)]),
                         [[2, 0], [2, 1], [8, 0]])

    def test_counted_from_0_again(self):
        self.assertEqual(self.after(self.wall(3, 9, 9), [climb(0, 0), climb(0, 0), climb(0, 0), turn(1, 9)]),
                         [[2, 0], [2, 1], [2, 1], [7, 0]])

    def test_a_hundred_hands(self):
        told = self.after(self.wall(100, 9, 9), [climb(0, 0)] * 51 + [turn(1, 9)])
        self.assertEqual(told, [[2, 0]] * 49 + [[2, 1], [2, 0], [8, 2]])

    def test_a_hold_whose_grip_falls_twice_is_one_hold(self):
        self.assertEqual(self.after(self.wall(1, 9, 9), [climb(0, 0), turn(1, 9)]), [[2, 1], [7, 0]])

    def test_a_hold_that_wears_on_the_way_up(self):
        # The second hand comes onto a hold that couldn't be held any more if one began now.
        self.assertEqual(self.after(self.wall(1, 9, 1), [climb(0, 0), can(0, 0), climb(0, 0), turn(1, 9), can(0, 0)]),
                         [[2, 1], [0], [-33], [7, 0], [1]])
        worn = LADDER[1:]
        told = run([begin(1)] + worn + [climb(0, 0), turn(0, 9), turn(1, 9), turn(2, 9)])[-4:]
        self.assertEqual(told, [[3, 2], [9, 0], [8, 0], [7, 0]])

    def test_grip_0_at_least(self):
        self.assertEqual(self.after(self.wall(1, 1, 9), [climb(0, 0), can(0, 0), train(0, 9), turn(1, 9)]),
                         [[2, 1], [0], [9], [0, 0]])

    def test_nobody_holds_a_grip_of_0(self):
        self.check_no_way(self.wall(2, 1, 9) + [climb(0, 0)])

    def test_two_climbers_and_two_routes_wear_one_hold(self):
        wall = self.wall(5, 9, 9) + [climber(9, 9, 1), route(1, 2, 1)]
        self.assertEqual(self.after(wall, [climb(0, 0), climb(1, 1), climb(1, 0), turn(1, 9), turn(0, 9), turn(2, 9)]),
                         [[2, 0], [2, 0], [2, 1], [8, 1], [9, 0], [9, 0]])

    def test_asking_wears_nothing(self):
        self.assertEqual(self.after(self.wall(1, 9, 9), [can(0, 0), fewest(0, 0), way(0, 0), turn(1, 9)])[-1], [9, 0])

    def test_the_first_way_changes_as_holds_wear(self):
        wall = [begin(1), hold(10, 0, 9), hold(10, 8, 9), hold(9, 4, 9), hold(8, 4, 9), route(0, 0, 2, 3, 1),
                climber(5, 1, 0)]
        told = self.after(wall, [climb(0, 0), turn(1, 9), way(0, 0), climb(0, 0), turn(1, 9), way(0, 0)])
        self.assertEqual(told, [[3, 2], [7, 0], [3, 0, 3, 1, 1, 0, 1], [3, 2], [7, 0], [-33]])


if __name__ == "__main__":
    unittest.main()
