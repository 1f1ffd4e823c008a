"""How calls are handed in and answers given back; begin; what comes before it."""

import unittest

from climbwall.crag import answers
from tests.helper import (HUGE, WallCase, back, begin, best, can, climb, climber, due, fewest, hold, log, look, near,
                          needed, off, reach, reveal, route, run, shift, span, state, strong, told, train, turn, way,
                          which, who)

EVERY_OTHER_CALL = [
    hold(1, 2, 3), hold(51, 51, 0), hold(HUGE, HUGE, HUGE),
    shift(0, 1, 1), shift(HUGE, HUGE, HUGE),
    off(0), off(HUGE), back(0), back(HUGE),
    turn(0, 1), turn(HUGE, HUGE),
    route(0, 0, 1), route(0), route(HUGE, HUGE), route(2, *range(12)),
    climber(1, 1, 0), climber(HUGE, HUGE, HUGE),
    train(0, 1), train(HUGE, HUGE),
    can(0, 0), can(HUGE, HUGE), fewest(0, 0), fewest(HUGE, HUGE),
    way(0, 0), way(HUGE, HUGE), climb(0, 0), climb(HUGE, HUGE),
    who(0), who(HUGE), which(0), which(HUGE), reach(0), reach(HUGE), strong(0), strong(HUGE),
    needed(0, 0), needed(HUGE, HUGE), span(0, 0), span(HUGE, HUGE), near(0, 0), near(HUGE, HUGE),
    due(0), due(101), due(HUGE), best(0), best(HUGE), look(0), look(HUGE), told(0), told(HUGE), log(0), log(HUGE),
    state(),
]

SESSION = [
    begin(2), hold(0, 0, 9), hold(3, 4, 9), route(0, 0, 1), climber(5, 1, 0),
    can(0, 0), fewest(0, 0), way(0, 0), climb(0, 0), off(0), off(0), back(0), turn(1, 5), train(0, 3),
    shift(1, 7, 7), back(1), who(0), which(0), reach(0), strong(0), needed(0, 0), span(0, 1), near(0, 0), due(100),
    best(0), look(0), told(0), log(0), state(),
]


class Untouched(list):
    """A list that fails when it is changed."""

    def fail(self, *numbers, **named):
        raise AssertionError("what is handed in is changed")

    append = extend = insert = pop = remove = clear = sort = reverse = fail
    __setitem__ = __delitem__ = __iadd__ = __imul__ = fail


class TestForm(WallCase):
    def test_count_stands_before_each_answer(self):
        calls = [0, 2, 1, 0, 0, 9, 1, 3, 4, 9, 6, 0, 2, 0, 1, 7, 5, 1, 0, 9, 0, 0, 10, 0, 0, 11, 0, 0, 12, 0, 0,
                 3, 0, 3, 0, 4, 0, 5, 1, 5, 8, 0, 3, 2, 1, 7, 7]
        self.assertEqual(answers(calls), [
            1, 0, 1, 0, 1, 1, 1, 0, 1, 0, 1, 1, 1, 2, 5, 2, 1, 1, 0, 1, 2, 2, 1,
            1, 1, 1, -17, 1, 0, 2, 8, 0, 1, 1, 2, 3, 4])

    def test_count_stands_before_each_answer_of_the_calls_from_13_on(self):
        calls = [0, 2, 1, 0, 0, 9, 1, 3, 4, 9, 6, 1, 2, 0, 1, 7, 5, 1, 0, 13, 0, 14, 0, 15, 0, 16, 0, 17, 0, 0,
                 18, 0, 1, 19, 0, 1, 20, 2, 21, 0, 22, 1, 23, 0, 24, 0, 25, 13, 1, 20, 101, 25]
        self.assertEqual(answers(calls), [
            1, 0, 1, 0, 1, 1, 1, 0, 1, 0, 2, 1, 0, 2, 1, 0, 1, 5, 1, 1, 1, 0,
            2, 25, 5, 2, 1, 0, 3, 2, 0, 1, 2, 0, 2, 5, 9, 3, 4, 0, 1, 4, 2, 0, 1, 1, 5, 0, 0, 5, 1, 0, 4, 2, 2, 1, 1,
            1, -2, 1, -22, 4, 2, 2, 1, 1])

    def test_one_call_alone(self):
        self.assertEqual(answers([0, 1]), [1, 0])
        self.assertEqual(answers([3, 0]), [1, -11])
        self.assertEqual(answers([25]), [1, -11])

    def test_every_row_of_route_is_read_to_its_end(self):
        for count in range(13):
            with self.subTest(count=count):
                rows = run([begin(1), route(0, *range(count)), hold(1, 1, 1)])
                self.assertEqual(rows, [[0], [-2 if 2 <= count <= 8 else -22], [0]])

    def test_whole_numbers_in_a_list(self):
        given = answers([number for call in SESSION for number in call])
        self.assertIs(type(given), list)
        for number in given:
            self.assertIs(type(number), int)

    def test_handed_in_list_stays_as_it_was(self):
        calls = [number for call in SESSION for number in call]
        before = list(calls)
        answers(calls)
        self.assertEqual(calls, before)

    def test_handed_in_list_is_not_changed_for_a_while_either(self):
        calls = Untouched([number for call in SESSION for number in call])
        self.assertEqual(answers(calls), answers(list(calls)))

    def test_six_thousand_numbers(self):
        calls = [route(HUGE, *[HUGE] * 12)] * 400
        self.assertEqual(sum(len(call) for call in calls), 6000)
        self.check(calls, [[-11]] * 400)
        self.check([begin(1)] + calls[1:], [[0]] + [[-22]] * 399)

    def test_nothing_is_kept_from_one_time_to_the_next(self):
        first = run(SESSION)
        self.assertEqual(run([hold(1, 1, 1)]), [[-11]])
        self.assertEqual(run(SESSION), first)

    def test_four_hundred_calls(self):
        setup = [begin(100)] + [hold(3 * n, 2 * n, 9) for n in range(8)] + [route(0, *range(8)), climber(4, 9, 0)]
        ways = [way(0, 0)] * (400 - len(setup))
        rows = run(setup + ways)
        self.assertEqual(len(rows), 400)
        self.assertEqual(rows[len(setup):], [rows[-1]] * len(ways))

    def test_four_hundred_calls_that_search_long(self):
        row = [hold(n, 0, 9) for n in range(7)] + [hold(50, 50, 9)]
        setup = [begin(100)] + row + [route(0, *range(8))] * 6 + [climber(60, 9, 0)] * 8
        for call, wanted in ((who(0), [0]), (which(0), [0]), (best(0), [-6]), (reach(0), [67]), (needed(0, 0), [-33])):
            asked = [call] * (400 - len(setup))
            self.assertEqual(run(setup + asked)[len(setup):], [wanted] * len(asked))


class TestBegin(WallCase):
    def test_all_others_are_refused_before(self):
        for call in EVERY_OTHER_CALL:
            with self.subTest(call=call):
                self.check([call], [[-11]])

    def test_range(self):
        for w, number in [(0, -22), (1, 0), (2, 0), (99, 0), (100, 0), (101, -22), (HUGE, -22)]:
            with self.subTest(w=w):
                self.check([begin(w)], [[number]])

    def test_a_refused_begin_begins_nothing(self):
        for w in (0, 101, HUGE):
            for call in EVERY_OTHER_CALL:
                with self.subTest(w=w, call=call):
                    self.check([begin(w), call], [[-22], [-11]])

    def test_a_call_before_begin_leaves_nothing(self):
        self.assertEqual(run([begin(1)] + reveal()), run(EVERY_OTHER_CALL + [begin(1)] + reveal())[-len(reveal()) - 1:])

    def test_begin_once_more_leaves_nothing_else(self):
        fresh = run([begin(3)] + reveal())
        self.assertEqual(run(SESSION + [begin(3)] + reveal())[len(SESSION):], fresh)

    def test_every_call_after_begin_once_more(self):
        fresh = run([begin(3)] + EVERY_OTHER_CALL)
        self.assertEqual(run(SESSION + [begin(3)] + EVERY_OTHER_CALL)[len(SESSION):], fresh)

    def test_begin_once_more_tells_the_wear_anew(self):
        again = [hold(0, 0, 9), hold(1, 0, 9), route(0, 0, 1), climber(1, 9, 0), climb(0, 0), turn(1, 9)]
        self.assertEqual(run([begin(1)] + again + [begin(3)] + again)[-2:], [[2, 0], [9, 2]])
        self.assertEqual(run([begin(3)] + again + [begin(1)] + again)[-2:], [[2, 1], [7, 0]])

    def test_a_refused_begin_later_changes_nothing(self):
        for w in (0, 101, HUGE):
            self.check_refused(SESSION, begin(w), -22)


if __name__ == "__main__":
    unittest.main()
