"""Points 1 and 2: hold, shift, off, back, turn, route, climber, train."""

import unittest

from tests.helper import (HUGE, WallCase, back, begin, can, climb, climber, fewest, hold, off, route, run, shift,
                          train, turn, way)

# Hold 2 is off, hold 1 was touched, route 1 has to be led, climber 1 may lead.
SMALL = [
    begin(3), hold(10, 10, 9), hold(10, 13, 9), hold(10, 16, 8), hold(13, 12, 7),
    route(0, 0, 1), route(1, 1, 3, 0), route(0, 2, 0), climber(5, 3, 0), climber(4, 9, 1), climb(0, 0), off(2),
]


def many_holds(count):
    return [hold(n, 2 * n, 1 + n % 9) for n in range(count)]


class TestHold(WallCase):
    def test_numbers_rise_from_0_to_19(self):
        self.check([begin(1)] + many_holds(20), [[0]] + [[n] for n in range(20)])

    def test_edges(self):
        for x, y, g in [(0, 0, 1), (50, 0, 9), (0, 50, 5), (50, 50, 1)]:
            with self.subTest(x=x, y=y, g=g):
                self.check([begin(1), hold(x, y, g), turn(0, 9), shift(0, 20, 30)], [[0], [0], [g, 0], [x, y]])

    def test_out_of_range(self):
        calls = [hold(51, 0, 1), hold(0, 51, 1), hold(HUGE, 0, 1), hold(0, HUGE, 1), hold(0, 0, 0), hold(0, 0, 10),
                 hold(0, 0, HUGE), hold(HUGE, HUGE, HUGE)]
        self.check_all_refused(SMALL, calls, -22)

    def test_a_hold_is_there(self):
        self.check_all_refused(SMALL, [hold(10, 10, 1), hold(13, 12, 9)], -17)

    def test_a_hold_that_is_off_is_there_too(self):
        self.check_refused(SMALL, hold(10, 16, 1), -17)

    def test_the_same_x_or_the_same_y_is_free(self):
        self.check([begin(1), hold(3, 4, 1), hold(3, 5, 1), hold(4, 4, 1), hold(4, 3, 1)], [[0], [0], [1], [2], [3]])

    def test_a_place_that_was_left_is_free(self):
        self.check([begin(1), hold(3, 4, 1), shift(0, 5, 6), hold(3, 4, 1), hold(5, 6, 1)],
                   [[0], [0], [3, 4], [1], [-17]])

    def test_too_many_comes_first(self):
        full = [begin(1)] + many_holds(20)
        self.check_all_refused(full, [hold(30, 30, 1), hold(0, 0, 1), hold(51, 0, 0), hold(HUGE, HUGE, HUGE)], -28)

    def test_too_many_even_if_all_are_off(self):
        full = [begin(1)] + many_holds(20) + [off(n) for n in range(20)]
        self.check_refused(full, hold(30, 30, 1), -28)

    def test_range_comes_before_so_already(self):
        self.check_all_refused(SMALL, [hold(10, 10, 0), hold(10, 10, 10)], -22)

    def test_refused_holds_take_no_number(self):
        self.check([begin(1), hold(51, 0, 1), hold(1, 1, 1), hold(1, 1, 1), hold(2, 2, 2)],
                   [[0], [-22], [0], [-17], [1]])


class TestShift(WallCase):
    def test_answers_where_it_was(self):
        self.check([begin(1), hold(3, 4, 1), shift(0, 50, 0), shift(0, 0, 50), shift(0, 3, 4), shift(0, 1, 1)],
                   [[0], [0], [3, 4], [50, 0], [0, 50], [3, 4]])

    def test_grip_hands_and_being_off_stay(self):
        touched = [begin(3), hold(1, 1, 9), hold(2, 2, 8), route(0, 0, 1), climber(5, 5, 0), climb(0, 0), off(1)]
        self.assertEqual(run(touched + [shift(1, 30, 30), off(1), turn(1, 1)])[-3:], [[2, 2], [-17], [8, 2]])

    def test_no_such_hold_comes_first(self):
        self.check_all_refused(SMALL, [shift(4, 1, 1), shift(HUGE, 1, 1), shift(4, 51, 51), shift(4, 10, 10)], -2)
        self.check_all_refused([begin(1)], [shift(0, 1, 1), shift(0, HUGE, 0)], -2)

    def test_out_of_range(self):
        self.check_all_refused(SMALL, [shift(0, 51, 0), shift(0, 0, 51), shift(0, HUGE, 10), shift(0, 10, HUGE)], -22)

    def test_a_hold_is_there(self):
        self.check_all_refused(SMALL, [shift(0, 10, 13), shift(0, 10, 16), shift(2, 10, 10)], -17)

    def test_its_own_place_is_taken(self):
        self.check_all_refused(SMALL, [shift(0, 10, 10), shift(2, 10, 16)], -17)

    def test_the_way_goes_where_the_hold_is(self):
        near = [begin(9), hold(0, 0, 9), hold(3, 4, 9), route(0, 0, 1), climber(5, 1, 0)]
        self.assertEqual(run(near + [can(0, 0), shift(1, 3, 5), can(0, 0), shift(1, 0, 5), can(0, 0)])[-5:],
                         [[1], [3, 4], [0], [3, 5], [1]])


class TestOffAndBack(WallCase):
    def test_off_tells_how_many_routes_have_it(self):
        self.check([begin(1)] + many_holds(5) + [route(0, 0, 1), route(1, 2, 1, 0), route(0, 3, 1)]
                   + [off(n) for n in range(5)],
                   [[0], [0], [1], [2], [3], [4], [0], [1], [2], [2], [3], [1], [1], [0]])

    def test_six_routes_have_it(self):
        self.check_last([begin(1)] + many_holds(2) + [route(0, 0, 1)] * 6 + [off(0)], [6])

    def test_back_answers_0(self):
        self.check([begin(1)] + many_holds(2) + [route(0, 0, 1), off(0), back(0), off(0), back(0)],
                   [[0], [0], [1], [0], [1], [0], [1], [0]])

    def test_so_already(self):
        self.check_refused(SMALL, off(2), -17)
        self.check_all_refused(SMALL, [back(0), back(1), back(3)], -17)

    def test_no_such_hold(self):
        self.check_all_refused(SMALL, [off(4), off(20), off(HUGE), back(4), back(20), back(HUGE)], -2)
        self.check_all_refused([begin(1)], [off(0), back(0)], -2)

    def test_grip_and_hands_stay(self):
        touched = [begin(3), hold(1, 1, 9), hold(2, 2, 8), route(0, 0, 1), climber(5, 5, 0), climb(0, 0)]
        self.assertEqual(run(touched + [off(1), back(1), turn(1, 1)])[-1], [8, 2])

    def test_a_route_may_have_a_hold_that_is_off(self):
        self.check([begin(1)] + many_holds(2) + [off(1), route(0, 0, 1), back(1), off(1)],
                   [[0], [0], [1], [0], [0], [0], [1]])


class TestTurn(WallCase):
    def test_answers_what_it_was(self):
        self.check([begin(1), hold(1, 1, 4), turn(0, 1), turn(0, 9), turn(0, 9), turn(0, 5)],
                   [[0], [0], [4, 0], [1, 0], [9, 0], [9, 0]])

    def test_no_hand_was_put_on_it(self):
        touched = [begin(3), hold(1, 1, 9), hold(2, 2, 9), route(0, 0, 1), climber(5, 5, 0), climb(0, 0)]
        self.assertEqual(run(touched + [turn(1, 7), turn(1, 7)])[-2:], [[9, 2], [7, 0]])
        # Two hands more are not three: those before the turn are forgotten.
        self.assertEqual(run(touched + [turn(1, 7), climb(0, 0), turn(1, 7)])[-2:], [[2, 0], [7, 2]])

    def test_a_hold_that_is_off_is_turned_and_stays_off(self):
        self.assertEqual(run(SMALL + [turn(2, 3), turn(2, 3), off(2)])[-3:], [[8, 0], [3, 0], [-17]])

    def test_no_such_hold_comes_first(self):
        self.check_all_refused(SMALL, [turn(4, 5), turn(HUGE, 5), turn(4, 0), turn(4, 10), turn(HUGE, HUGE)], -2)

    def test_out_of_range(self):
        self.check_all_refused(SMALL, [turn(0, 0), turn(1, 10), turn(1, HUGE), turn(2, 0)], -22)


class TestRoute(WallCase):
    def test_numbers_rise_from_0_to_5(self):
        self.check([begin(1)] + many_holds(2) + [route(n % 2, 0, 1) for n in range(6)],
                   [[0], [0], [1]] + [[n] for n in range(6)])

    def test_2_and_8_holds(self):
        self.check([begin(1)] + many_holds(20) + [route(0, 19, 0), route(1, 7, 6, 5, 4, 3, 2, 1, 0)],
                   [[0]] + [[n] for n in range(20)] + [[0], [1]])

    def test_counts_that_are_refused(self):
        setup = [begin(1)] + many_holds(12)
        calls = [route(0), route(0, 0), route(0, *range(9)), route(0, *range(11)), route(0, *range(12))]
        self.check_all_refused(setup, calls, -22)

    def test_lead_is_refused_above_1(self):
        self.check_all_refused(SMALL, [route(2, 0, 1), route(HUGE, 0, 1)], -22)

    def test_a_hold_told_twice(self):
        self.check_all_refused(SMALL, [route(0, 0, 0), route(0, 0, 1, 0), route(1, 1, 2, 3, 2)], -22)

    def test_a_hold_that_is_not_there(self):
        self.check_all_refused(SMALL, [route(0, 0, 4), route(0, 4, 0), route(1, 0, HUGE, 1), route(0, 20, 1)], -2)
        self.check_refused([begin(1)], route(0, 0, 1), -2)

    def test_range_comes_before_no_such(self):
        calls = [route(2, 0, 4), route(0, 4), route(0, HUGE, HUGE), route(0, 0, 4, 0), route(0, *range(9))]
        self.check_all_refused(SMALL, calls, -22)

    def test_too_many_comes_first(self):
        full = [begin(1)] + many_holds(3) + [route(0, 0, 1)] * 6
        calls = [route(0, 0, 1), route(0, 1, 2), route(2, 0, 1), route(0), route(0, 0, 0), route(0, 0, 9),
                 route(HUGE, HUGE, HUGE)]
        self.check_all_refused(full, calls, -28)

    def test_refused_routes_take_no_number(self):
        self.check([begin(1)] + many_holds(2) + [route(2, 0, 1), route(0, 1, 0), route(0, 0, 2), route(0, 0, 1)],
                   [[0], [0], [1], [-22], [0], [-2], [1]])


class TestClimber(WallCase):
    def test_numbers_rise_from_0_to_7(self):
        self.check([begin(1)] + [climber(1 + n, 1 + n, n % 2) for n in range(8)], [[0]] + [[n] for n in range(8)])

    def test_edges(self):
        for r, s, lead in [(1, 1, 0), (71, 9, 1), (1, 9, 1), (71, 1, 0)]:
            with self.subTest(r=r, s=s, lead=lead):
                self.check([begin(1), climber(r, s, lead), train(0, 5)], [[0], [0], [s]])

    def test_out_of_range(self):
        calls = [climber(0, 1, 0), climber(72, 1, 0), climber(HUGE, 1, 0), climber(1, 0, 0), climber(1, 10, 0),
                 climber(1, HUGE, 0), climber(1, 1, 2), climber(1, 1, HUGE), climber(HUGE, HUGE, HUGE)]
        self.check_all_refused(SMALL, calls, -22)

    def test_too_many_comes_first(self):
        full = [begin(1)] + [climber(5, 5, 1)] * 8
        self.check_all_refused(full, [climber(5, 5, 1), climber(0, 5, 1), climber(HUGE, HUGE, HUGE)], -28)

    def test_refused_climbers_take_no_number(self):
        self.check([begin(1), climber(0, 1, 0), climber(1, 1, 0), climber(1, 1, 2), climber(1, 1, 0)],
                   [[0], [-22], [0], [-22], [1]])


class TestTrain(WallCase):
    def test_answers_what_it_was(self):
        self.check([begin(1), climber(5, 4, 0), climber(5, 6, 0), train(0, 1), train(0, 9), train(1, 6), train(0, 9)],
                   [[0], [0], [1], [4], [1], [6], [9]])

    def test_no_such_climber_comes_first(self):
        self.check_all_refused(SMALL, [train(2, 5), train(8, 5), train(HUGE, 5), train(2, 0), train(HUGE, HUGE)], -2)
        self.check_refused([begin(1)], train(0, 5), -2)

    def test_out_of_range(self):
        self.check_all_refused(SMALL, [train(0, 0), train(1, 10), train(1, HUGE)], -22)

    def test_what_can_be_held_follows(self):
        wall = [begin(9), hold(0, 0, 5), hold(1, 1, 5), route(0, 0, 1), climber(5, 4, 0)]
        self.assertEqual(run(wall + [can(0, 0), train(0, 5), can(0, 0), fewest(0, 0), train(0, 4), way(0, 0)])[-6:],
                         [[0], [4], [1], [2], [5], [-33]])


if __name__ == "__main__":
    unittest.main()
