"""Points 6 and 7: span, near, due, look, told, log, state."""

import unittest

from tests.helper import (HUGE, WallCase, back, begin, best, can, climb, climber, due, fewest, hold, log, look, near,
                          needed, off, reach, route, run, shift, span, state, strong, told, train, turn, way, which, who)

# Hold 3 is off, hold 4 can't be held by climber 0; climber 1 may lead, and route 1 has to be led.
WALL = [
    begin(3), hold(10, 10, 9), hold(10, 13, 9), hold(14, 13, 7), hold(10, 11, 9), hold(11, 11, 6), hold(40, 40, 9),
    route(0, 0, 1), route(1, 2, 1, 0), climber(5, 3, 0), climber(4, 9, 1), off(3),
]
CORNERS = [begin(1), hold(0, 0, 1), hold(50, 50, 1), hold(0, 50, 1), hold(50, 0, 1)]


def after(wall, calls):
    return run(wall + calls)[len(wall):]


class TestSpan(WallCase):
    def test_squared_then_the_least_whole_number(self):
        places = [((3, 4), 25, 5), ((1, 1), 2, 2), ((3, 5), 34, 6), ((0, 2), 4, 2), ((1, 2), 5, 3), ((2, 2), 8, 3),
                  ((6, 8), 100, 10), ((6, 9), 117, 11), ((50, 49), 4901, 71), ((50, 48), 4804, 70)]
        for (x, y), squared, root in places:
            with self.subTest(x=x, y=y):
                wall = [begin(1), hold(0, 0, 1), hold(x, y, 1)]
                self.check_tells(wall, span(0, 1), [squared, root])
                self.check_tells(wall, span(1, 0), [squared, root])

    def test_no_less_and_least_for_every_distance_along_the_wall(self):
        for far in range(1, 51):
            for up in (0, 1, far):
                squared, root = run([begin(1), hold(0, 0, 1), hold(far, up, 1), span(0, 1)])[-1]
                self.assertEqual(squared, far * far + up * up)
                self.assertTrue((root - 1) ** 2 < squared <= root ** 2)

    def test_a_hold_with_itself(self):
        for h in range(6):
            self.check_tells(WALL, span(h, h), [0, 0])

    def test_one_apart(self):
        for x, y in ((9, 10), (11, 10), (10, 9), (10, 11)):
            self.check_tells([begin(1), hold(10, 10, 1), hold(x, y, 1)], span(0, 1), [1, 1])

    def test_the_furthest_two(self):
        self.check_tells(CORNERS, span(0, 1), [5000, 71])
        self.check_tells(CORNERS, span(2, 3), [5000, 71])
        self.check_tells(CORNERS, span(0, 2), [2500, 50])

    def test_to_the_left_and_down(self):
        wall = [begin(1), hold(10, 10, 1), hold(7, 14, 1), hold(7, 6, 1), hold(13, 6, 1)]
        for h in (1, 2, 3):
            self.check_tells(wall, span(0, h), [25, 5])
            self.check_tells(wall, span(h, 0), [25, 5])

    def test_off_or_on(self):
        self.check_tells(WALL, span(3, 0), [1, 1])
        self.check_tells(WALL, span(1, 3), [4, 2])

    def test_where_they_were_shifted(self):
        self.check_tells(WALL + [shift(0, 13, 17)], span(0, 1), [25, 5])

    def test_no_such(self):
        calls = [span(6, 0), span(0, 6), span(6, 6), span(20, 20), span(HUGE, 0), span(0, HUGE), span(HUGE, HUGE)]
        self.check_all_refused(WALL, calls, -2)
        self.check_refused([begin(1)], span(0, 0), -2)


class TestNear(WallCase):
    def test_others_that_can_be_held_and_reached(self):
        self.check_tells(WALL, near(0, 0), [2, 1, 2])
        self.check_tells(WALL, near(1, 0), [2, 1, 4])
        self.check_tells(WALL, near(0, 1), [2, 0, 2])
        self.check_tells(WALL, near(0, 2), [2, 0, 1])
        self.check_tells(WALL, near(1, 2), [2, 1, 4])

    def test_none(self):
        self.check_tells(WALL, near(0, 5), [0])
        self.check_tells([begin(1), hold(1, 1, 9), climber(71, 9, 1)], near(0, 0), [0])

    def test_of_a_hold_that_is_off(self):
        self.check_tells(WALL, near(0, 3), [3, 0, 1, 2])
        self.check_tells(WALL, near(1, 3), [3, 0, 1, 4])

    def test_of_a_hold_that_cannot_be_held_itself(self):
        self.check_tells(WALL, near(0, 4), [3, 0, 1, 2])

    def test_back_and_worn_and_trained(self):
        self.check_tells(WALL + [back(3)], near(0, 0), [3, 1, 2, 3])
        self.check_tells(WALL + [train(0, 4)], near(0, 0), [3, 1, 2, 4])
        self.check_tells(WALL + [train(0, 2)], near(0, 0), [1, 1])
        self.check_tells(WALL + [turn(4, 7)], near(0, 0), [3, 1, 2, 4])

    def test_a_grip_that_has_worn_to_0(self):
        wall = [begin(2), hold(10, 10, 1), hold(10, 13, 1), hold(10, 16, 1), route(0, 0, 1), climber(3, 9, 0)]
        self.check_tells(wall, near(0, 0), [1, 1])
        self.check_tells(wall + [climb(0, 0)], near(0, 0), [0])
        self.check_tells(wall + [climb(0, 0)], near(0, 1), [2, 0, 2])

    def test_a_reach_that_is_just_as_far(self):
        wall = [begin(2), hold(10, 10, 9), hold(13, 14, 9), hold(13, 15, 9), hold(5, 10, 9), hold(4, 10, 9)]
        self.check_tells(wall + [climber(5, 1, 0)], near(0, 0), [2, 1, 3])
        self.check_tells(wall + [climber(4, 1, 0)], near(0, 0), [0])
        self.check_tells(wall + [climber(6, 1, 0)], near(0, 0), [4, 1, 2, 3, 4])

    def test_hands_need_not_be_left_and_right(self):
        wall = [begin(2), hold(10, 10, 9), hold(9, 10, 9), hold(11, 10, 9), climber(1, 1, 0)]
        self.check_tells(wall, near(0, 0), [2, 1, 2])

    def test_all_there_are(self):
        wall = [begin(2)] + [hold(n, 2 * n, 1) for n in range(20)] + [climber(71, 9, 0)]
        self.check_tells(wall, near(0, 7), [19] + [n for n in range(20) if n != 7])
        self.check_tells(CORNERS + [climber(71, 9, 0)], near(0, 0), [3, 1, 2, 3])
        self.check_tells(CORNERS + [climber(70, 9, 0)], near(0, 0), [2, 2, 3])

    def test_no_such(self):
        calls = [near(2, 0), near(0, 6), near(2, 6), near(8, 20), near(HUGE, 0), near(0, HUGE), near(HUGE, HUGE)]
        self.check_all_refused(WALL, calls, -2)
        self.check_refused([begin(1), hold(1, 1, 1)], near(0, 0), -2)
        self.check_refused([begin(1), climber(1, 1, 1)], near(0, 0), -2)
        self.check_refused([begin(1)], near(0, 0), -2)


class TestDue(WallCase):
    def wall(self, w, grip=9):
        """A climb of route 0 puts two hands on hold 1, one of route 1 two on hold 2."""
        return [begin(w), hold(10, 10, grip), hold(10, 13, grip), hold(10, 16, grip), route(0, 0, 1), route(0, 1, 2),
                climber(3, 9, 0)]

    def test_by_1(self):
        self.check_tells(self.wall(1), due(0), [0])
        self.check_tells(self.wall(1), due(1), [3, 0, 1, 2])
        self.check_tells(self.wall(1), due(100), [3, 0, 1, 2])

    def test_by_100(self):
        self.check_tells(self.wall(100), due(0), [0])
        self.check_tells(self.wall(100), due(99), [0])
        self.check_tells(self.wall(100), due(100), [3, 0, 1, 2])

    def test_after_climbs(self):
        climbed = self.wall(5) + [climb(0, 0), climb(0, 0), climb(0, 1)]
        for n, wanted in [(0, [0]), (1, [1, 1]), (2, [1, 1]), (3, [2, 1, 2]), (4, [2, 1, 2]), (5, [3, 0, 1, 2])]:
            with self.subTest(n=n):
                self.check_tells(climbed, due(n), wanted)

    def test_counted_from_0_again_when_a_grip_has_fallen(self):
        fallen = self.wall(4) + [climb(0, 0), climb(0, 0), climb(0, 1)]
        self.check_tells(fallen, due(2), [1, 2])
        self.check_tells(fallen, due(3), [1, 2])
        self.check_tells(fallen, due(4), [3, 0, 1, 2])

    def test_none_with_no_hands_more(self):
        for w in range(1, 101):
            self.assertEqual(run(self.wall(w) + [climb(0, 0)] * 7 + [due(0)])[-1], [0])

    def test_after_turn(self):
        turned = self.wall(5) + [climb(0, 0), climb(0, 0), climb(0, 1), turn(1, 4)]
        self.check_tells(turned, due(3), [1, 2])
        self.check_tells(turned, due(4), [1, 2])
        self.check_tells(turned, due(5), [3, 0, 1, 2])

    def test_a_grip_of_0_does_not_fall(self):
        worn = self.wall(2, grip=1) + [climb(0, 0)]
        self.check_tells(worn, look(1), [0, 10, 13, 0, 1])
        self.check_tells(worn, due(2), [2, 0, 2])
        self.check_tells(worn, due(100), [2, 0, 2])
        self.check_tells(worn + [turn(1, 1)], due(100), [3, 0, 1, 2])

    def test_a_grip_of_1_does(self):
        self.check_tells(self.wall(2, grip=1), due(2), [3, 0, 1, 2])

    def test_off_or_on(self):
        self.check_tells(self.wall(5) + [climb(0, 0), off(1), off(0)], due(3), [1, 1])
        self.check_tells(self.wall(5) + [climb(0, 0), off(1), off(0)], due(100), [3, 0, 1, 2])

    def test_no_holds(self):
        self.check_tells([begin(1)], due(0), [0])
        self.check_tells([begin(1)], due(100), [0])

    def test_out_of_range(self):
        for wall in (self.wall(1), self.wall(100), [begin(1)]):
            self.check_all_refused(wall, [due(101), due(HUGE)], -22)


class TestLook(WallCase):
    def test_grip_place_hands_and_on(self):
        self.check_tells(WALL, look(2), [7, 14, 13, 0, 1])
        self.check_tells(WALL, look(3), [9, 10, 11, 0, 0])
        self.check_tells(CORNERS, look(2), [1, 0, 50, 0, 1])
        self.check_tells(CORNERS, look(3), [1, 50, 0, 0, 1])

    def test_after_each_call_that_changes_it(self):
        looks = after(WALL, [climb(0, 0), look(1), climb(0, 0), look(1), shift(1, 10, 14), look(1), off(1), look(1),
                             turn(1, 4), look(1), back(1), look(1)])
        self.assertEqual(looks[1::2], [[9, 10, 13, 2, 1], [8, 10, 13, 1, 1], [8, 10, 14, 1, 1], [8, 10, 14, 1, 0],
                                       [4, 10, 14, 0, 0], [4, 10, 14, 0, 1]])

    def test_no_other_hold_is_changed(self):
        others = [look(h) for h in (0, 2, 3, 4, 5)]
        before = after(WALL, others)
        changes = [climb(0, 0), shift(1, 10, 14), off(1), turn(1, 4), back(1)]
        self.assertEqual(after(WALL + changes, others), before)

    def test_worn_to_0(self):
        wall = [begin(1), hold(1, 2, 1), hold(3, 4, 1), route(0, 0, 1), climber(9, 9, 0), climb(0, 0)]
        self.check_tells(wall, look(1), [0, 3, 4, 0, 1])
        self.check_tells(wall, look(0), [1, 1, 2, 0, 1])

    def test_no_such(self):
        self.check_all_refused(WALL, [look(6), look(20), look(HUGE)], -2)
        self.check_refused([begin(1)], look(0), -2)


class TestTold(WallCase):
    def test_how_many_these_and_whether_it_has_to_be_led(self):
        self.check_tells(WALL, told(0), [2, 0, 1, 0])
        self.check_tells(WALL, told(1), [3, 2, 1, 0, 1])

    def test_eight_as_told(self):
        wall = [begin(1)] + [hold(n, 2 * n, 1) for n in range(20)]
        stops = [19, 3, 7, 0, 12, 1, 18, 5]
        self.check_tells(wall + [route(0, *stops)], told(0), [8] + stops + [0])
        self.check_tells(wall + [route(1, *stops)], told(0), [8] + stops + [1])

    def test_holds_that_are_off_stay_told(self):
        self.check_tells(WALL + [route(0, 3, 4), off(4)], told(2), [2, 3, 4, 0])

    def test_six_routes(self):
        wall = WALL[:-1] + [route(n % 2, n, n + 1) for n in range(4)]
        self.assertEqual(after(wall, [told(r) for r in range(2, 6)]), [[2, n, n + 1, n % 2] for n in range(4)])

    def test_no_such(self):
        self.check_all_refused(WALL, [told(2), told(6), told(HUGE)], -2)
        self.check_refused([begin(1)], told(0), -2)


class TestLog(WallCase):
    def test_before_a_climb(self):
        self.check_tells(WALL, log(0), [0, 0, 5, 3, 0])
        self.check_tells(WALL, log(1), [0, 0, 4, 9, 1])
        self.check_tells([begin(1), climber(71, 1, 1)], log(0), [0, 0, 71, 1, 1])
        self.check_tells([begin(1), climber(1, 9, 0)], log(0), [0, 0, 1, 9, 0])

    def test_after_climbs(self):
        logs = after(WALL, [climb(1, 0), log(1), climb(1, 1), log(1), climb(0, 0), log(0), log(1)])
        self.assertEqual(logs, [[2, 0], [1, 2, 4, 9, 1], [3, 1], [2, 5, 4, 9, 1], [2, 0], [1, 2, 5, 3, 0],
                                [2, 5, 4, 9, 1]])

    def test_many_climbs(self):
        wall = [begin(100), hold(1, 1, 9), hold(1, 2, 9), hold(1, 3, 9), route(0, 0, 1, 2), climber(1, 9, 0)]
        self.check_tells(wall + [climb(0, 0)] * 90, log(0), [90, 270, 1, 9, 0])

    def test_refused_climbs_do_not_count(self):
        refused = [climb(0, 1), climb(2, 0), climb(0, 2), climb(HUGE, HUGE)]
        self.assertEqual(after(WALL, refused), [[-61], [-2], [-2], [-2]])
        self.check_tells(WALL + refused, log(0), [0, 0, 5, 3, 0])
        no_way = WALL + [off(1), climb(0, 0), climb(1, 1)]
        self.assertEqual(run(no_way)[-2:], [[-33], [-33]])
        self.check_tells(no_way, log(0), [0, 0, 5, 3, 0])
        self.check_tells(no_way, log(1), [0, 0, 4, 9, 1])

    def test_asking_does_not_count(self):
        asked = [can(1, 1), fewest(1, 1), way(1, 1), who(1), which(1), reach(1), strong(1), needed(1, 1), best(1),
                 near(1, 1), log(1)]
        self.check_tells(WALL + asked, log(1), [0, 0, 4, 9, 1])

    def test_after_train(self):
        self.check_tells(WALL + [climb(0, 0), train(0, 8)], log(0), [1, 2, 5, 8, 0])
        self.check_tells(WALL + [climb(0, 0), train(0, 0)], log(0), [1, 2, 5, 3, 0])
        self.check_tells(WALL + [climb(0, 0), train(0, 8)], log(1), [0, 0, 4, 9, 1])

    def test_begin_leaves_nothing_of_it(self):
        self.check_tells(WALL + [climb(0, 0)] + WALL, log(0), [0, 0, 5, 3, 0])
        self.check_refused(WALL + [climb(0, 0), begin(3)], log(0), -2)

    def test_a_refused_begin_leaves_it(self):
        self.check_tells(WALL + [climb(0, 0), begin(0)], log(0), [1, 2, 5, 3, 0])

    def test_no_such(self):
        self.check_all_refused(WALL, [log(2), log(8), log(HUGE)], -2)
        self.check_refused([begin(1)], log(0), -2)


class TestState(WallCase):
    def test_as_it_grows(self):
        grown = [begin(7), state(), hold(1, 1, 1), state(), hold(2, 2, 2), state(), hold(3, 3, 3), state(),
                 route(0, 0, 1), state(), climber(1, 1, 1), state(), climber(2, 2, 1), state()]
        self.assertEqual(run(grown)[1::2], [[7, 0, 0, 0], [7, 1, 0, 0], [7, 2, 0, 0], [7, 3, 0, 0], [7, 3, 1, 0],
                                            [7, 3, 1, 1], [7, 3, 1, 2]])

    def test_full(self):
        full = [begin(100)] + [hold(n, 2 * n, 1) for n in range(25)] + [route(0, 0, 1)] * 9 + [climber(1, 1, 1)] * 11
        self.check_tells(full, state(), [100, 20, 6, 8])

    def test_refused_calls_do_not_count(self):
        refused = [hold(10, 10, 1), hold(51, 0, 1), route(0, 0, 0), route(0, 0, 6), climber(0, 1, 1), begin(101)]
        self.check_tells(WALL + refused, state(), [3, 6, 2, 2])

    def test_holds_that_are_off_count(self):
        self.check_tells(WALL + [off(h) for h in (0, 1, 2, 4, 5)], state(), [3, 6, 2, 2])

    def test_begin_once_more(self):
        self.check_tells(WALL + [begin(44)], state(), [44, 0, 0, 0])


class TestNothingAtAll(WallCase):
    def test_answers_right_after_begin(self):
        self.check([begin(8), who(0), which(0), reach(0), strong(0), needed(0, 0), span(0, 0), near(0, 0), due(100),
                    best(0), look(0), told(0), log(0), state()],
                   [[0], [-2], [-2], [-2], [-2], [-2], [-2], [-2], [0], [-2], [-2], [-2], [-2], [8, 0, 0, 0]])


if __name__ == "__main__":
    unittest.main()
