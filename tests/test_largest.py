"""The largest lists: 80 calls, at most 10 of them stops."""

import time
import unittest

from tests.helper import (
    acts, away, begins, ends, hand, may, most, office, power, signs, stops, term, told, turns, valid, who,
)

SECONDS = 5
EVERYBODY = [begins(8)] + [office(*[(number + step) % 8 for step in range(8)]) for number in range(8)]
# All offices are reached, one behind another, and the numbers of the delegations fall on the way.
HANDED = [hand(number, number + 1, 0, 1000 - number, 1, 2 * number, 0) for number in range(6, -1, -1)]
HANDED += [hand(7, 0, 0, 900, 1, number, 90000) for number in range(13)]
POWERS = [power(0, 0, 1000 + number, number, 1000 * number + 1000) for number in range(20)]
AWAY = [away(number % 8, 100 * number, 100 * number + 150) for number in range(20)]
TERMS = [term(number % 8, (3 * number) % 8, 50 * number, 50 * number + 40) for number in range(20)]
SIGNS = [signs(0, 10 * number, 1 + number % 8) for number in range(20)]


class LargestTest(unittest.TestCase):
    def answers_in_time(self, *calls):
        self.assertEqual(len(calls), 80)
        self.assertLessEqual(len([call for call in calls if call[0] == 14]), 10)
        begun = time.monotonic()
        given = told(*calls)
        self.assertLess(time.monotonic() - begun, SECONDS)
        self.assertEqual(len(given), 80)
        return given

    def assert_nothing_refused(self, given):
        self.assertEqual([answer for answer in given if answer[0] in (-1, -2, -3, -5)], [])

    def test_twenty_of_each_that_stops_looks_at(self):
        asked = [stops(0, 100, day) for day in range(0, 1000, 100)]
        given = self.answers_in_time(*EVERYBODY, *HANDED, *POWERS[:1], *AWAY, *TERMS, *asked)
        self.assert_nothing_refused(given)
        self.assertEqual(given[70:73], [[7, 1, 2, 3, 4, 5, 6, 7], [6, 2, 3, 4, 5, 6, 7], [6, 0, 3, 4, 5, 6, 7]])
        given = self.answers_in_time(*EVERYBODY, *HANDED, *POWERS[:1], *AWAY, *SIGNS, *asked)
        self.assert_nothing_refused(given)
        self.assertEqual(given[70:73], [[0], [4, 2, 3, 4, 5], [4, 0, 3, 4, 5]])

    def test_ten_of_stops_with_eight_who_decide(self):
        before = EVERYBODY + HANDED + POWERS + SIGNS[:20] + [ends(0, 99999)]
        # From amount 0 on one must sign: all eight have to be away. From 70 on it is eight: one is enough.
        given = self.answers_in_time(*before, *[stops(0, 0, 50)] * 5, *[stops(0, 70, 50)] * 5)
        self.assert_nothing_refused(given)
        self.assertEqual(given[-10:], [[8, 0, 1, 2, 3, 4, 5, 6, 7]] * 5 + [[1, 0]] * 5)

    def test_turns_through_all_days(self):
        before = EVERYBODY + HANDED + POWERS
        given = self.answers_in_time(*before, *[turns(number % 8, 0, 500, 99998) for number in range(31)])
        self.assert_nothing_refused(given)
        given = self.answers_in_time(*before, *[turns(7, 0, 900, 0)] * 31)
        self.assertEqual(given[-1], [12])
        given = self.answers_in_time(*before, *[turns(7, 0, 999, 0)] * 31)
        self.assertEqual(given[-1], [-6])
        given = self.answers_in_time(*EVERYBODY, *AWAY, *TERMS, *[turns(0, 0, 0, 0)] * 31)
        self.assertEqual(given[-1], [-6])

    def test_most_through_all_limits(self):
        given = self.answers_in_time(*EVERYBODY, *HANDED, *POWERS, *[most(number % 8, 0, 50) for number in range(31)])
        self.assert_nothing_refused(given)
        # Person 7 has office 7 at the end of the chain, whose last limit is 994.
        self.assertEqual(given[49:57], [[1019], [1000], [999], [998], [997], [996], [995], [994]])

    def test_the_longest_chains(self):
        given = self.answers_in_time(*EVERYBODY, *HANDED, *POWERS, *[may(7, 0, 950, 50)] * 31)
        self.assertEqual(given[-31:], [[1, 7, 0, 1, 2, 3, 4, 5, 6]] * 31)

    def test_the_other_calls(self):
        before = EVERYBODY + HANDED + POWERS + SIGNS[:8]
        for call, answer in (
            (acts(7, 50), [1, 7]), (who(0, 75, 50), [8, 0, 1, 2, 3, 4, 5, 6, 7]),
            (valid(0, 75, 50, 0, 1, 2, 3, 4, 5, 6, 7, 7, 6, 5, 4), [1, 8, 8]),
        ):
            given = self.answers_in_time(*before, *[call] * 23)
            self.assertEqual(given[-23:], [answer] * 23)
