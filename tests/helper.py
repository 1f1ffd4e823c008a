"""Calls by their names, and what the tests share."""

import unittest

from climbwall.crag import answers

HUGE = 4294967295


def begin(w):
    return [0, w]


def hold(x, y, g):
    return [1, x, y, g]


def shift(h, x, y):
    return [2, h, x, y]


def off(h):
    return [3, h]


def back(h):
    return [4, h]


def turn(h, g):
    return [5, h, g]


def route(lead, *holds):
    return [6, lead, len(holds)] + list(holds)


def climber(r, s, lead):
    return [7, r, s, lead]


def train(c, s):
    return [8, c, s]


def can(c, r):
    return [9, c, r]


def fewest(c, r):
    return [10, c, r]


def way(c, r):
    return [11, c, r]


def climb(c, r):
    return [12, c, r]


def who(r):
    return [13, r]


def which(c):
    return [14, c]


def reach(r):
    return [15, r]


def strong(r):
    return [16, r]


def needed(c, r):
    return [17, c, r]


def span(h, i):
    return [18, h, i]


def near(c, h):
    return [19, c, h]


def due(n):
    return [20, n]


def best(c):
    return [21, c]


def look(h):
    return [22, h]


def told(r):
    return [23, r]


def log(c):
    return [24, c]


def state():
    return [25]


def run(calls):
    """The answer of each call, one list each."""
    given = answers([number for call in calls for number in call])
    rows = []
    at = 0
    while at < len(given):
        rows.append(given[at + 1:at + 1 + given[at]])
        at += 1 + given[at]
    assert at == len(given), "an answer is shorter than its count"
    assert len(rows) == len(calls), "not one answer for each call"
    return rows


def last(calls):
    return run(calls)[-1]


def show():
    """Calls that tell all that is kept."""
    return ([state()] + [look(h) for h in range(20)] + [told(r) for r in range(6)] + [log(c) for c in range(8)])


def reveal():
    """Calls that tell all that is kept, then calls that use and change it."""
    pairs = [(c, r) for c in range(8) for r in range(6)]
    calls = show() + [way(c, r) for c, r in pairs] + [climb(c, r) for c, r in pairs]
    for h in range(20):
        calls += [off(h), back(h), shift(h, 49, h), turn(h, 9)]
    calls += [train(c, 9) for c in range(8)]
    calls += [way(c, r) for c, r in pairs]
    calls += [hold(48, y, 1) for y in range(21)]
    calls += [route(0, 0, 1) for _ in range(7)]
    calls += [climber(1, 1, 0) for _ in range(9)]
    return calls


class WallCase(unittest.TestCase):
    def check(self, calls, wanted):
        self.assertEqual(run(calls), wanted)

    def check_last(self, calls, wanted):
        self.assertEqual(last(calls), wanted)

    def check_tells(self, setup, call, wanted):
        """The call is answered so, and all is as if it had not been made."""
        rows = run(setup + [call] + reveal())
        at = len(setup)
        self.assertEqual(rows[at], wanted, call)
        self.assertEqual(rows[:at] + rows[at + 1:], run(setup + reveal()), call)

    def check_refused(self, setup, call, number):
        """The call is answered with the number alone, and all is as if it had not been made."""
        self.check_tells(setup, call, [number])

    def check_all_refused(self, setup, calls, number):
        for call in calls:
            with self.subTest(call=call):
                self.check_refused(setup, call, number)
