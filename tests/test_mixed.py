"""Calls that tell and calls that ask, in one list."""

import unittest

from signedpowers.house import answers
from tests.helper import (
    acts, away, begins, ends, hand, house_after, kept, may, most, office, one_list, power, signs, stops, term, told, turns,
    valid, who,
)

TOLD = [
    begins(4), office(1), office(3), office(), term(0, 0, 0, 0), term(1, 2, 5, 40), power(0, 3, 100, 2, 50),
    hand(0, 1, 3, 80, 1, 0, 0), hand(1, 2, 3, 70, 0, 0, 0), term(2, 3, 0, 30), away(0, 20, 25), away(2, 22, 28),
    signs(3, 60, 2), ends(0, 35), signs(3, 90, 3), hand(0, 2, 3, 90, 0, 10, 45), ends(1, 33),
]
ASKED = [
    acts(0, 21), may(1, 3, 50, 21), who(3, 50, 21), valid(3, 60, 21, 1, 2, 3), most(3, 3, 21), turns(2, 3, 70, 10),
    stops(3, 60, 21),
]


class MixedTest(unittest.TestCase):
    def assert_step_by_step(self, *steps):
        """Each step is a call and its answer."""
        self.assertEqual(told(*[call for call, answer in steps]), [answer for call, answer in steps])

    def test_what_is_asked_changes_nothing(self):
        for many in range(len(TOLD) + 1):
            before = TOLD[:many]
            self.assertEqual(kept(house_after(*before, *ASKED)), kept(house_after(*before)))

    def test_asking_in_between_leaves_the_other_answers_as_they_are(self):
        plain = told(*TOLD)
        between = [part for call in TOLD for part in (call, *ASKED[:3])]
        self.assertEqual(told(*between)[::4], plain)

    def test_each_sees_all_before_it_and_nothing_behind_it(self):
        for call in ASKED:
            alone = [told(*TOLD[:many], call)[-1] for many in range(1, len(TOLD) + 1)]
            mixed = told(*[part for row in TOLD for part in (row, call)])[1::2]
            self.assertEqual(mixed, alone, call)
            self.assertGreater(len(set(map(tuple, alone))), 1, call)

    def test_acts_step_by_step(self):
        self.assert_step_by_step(
            (acts(0, 5), [-2]), (begins(2), [0]), (acts(0, 5), [-2]), (office(1), [0]), (acts(0, 5), [1, 1]),
            (term(0, 0, 0, 0), [0]), (acts(0, 5), [1, 0]), (away(0, 5, 6), [0]), (acts(0, 5), [1, 1]),
            (away(1, 0, 0), [0]), (acts(0, 5), [0]), (acts(0, 6), [1, 0]),
        )

    def test_may_step_by_step(self):
        self.assert_step_by_step(
            (may(1, 3, 50, 5), [-2]), (begins(2), [0]), (office(0), [0]), (office(1), [1]), (may(1, 3, 50, 5), [0]),
            (hand(0, 1, 3, 50, 0, 0, 0), [0]), (may(1, 3, 50, 5), [0]), (power(0, 3, 50, 0, 0), [0]),
            (may(1, 3, 50, 5), [1, 1, 0]), (ends(0, 5), [0]), (may(1, 3, 50, 5), [0]), (ends(0, 6), [0]),
            (may(1, 3, 50, 5), [1, 1, 0]), (power(1, 3, 50, 0, 0), [1]), (may(1, 3, 50, 5), [1, 1]),
        )

    def test_who_valid_and_stops_step_by_step(self):
        self.assert_step_by_step(
            (begins(3), [0]), (office(0), [0]), (office(1, 2), [1]), (power(0, 3, 50, 0, 0), [0]), (who(3, 50, 5), [1, 0]),
            (valid(3, 50, 5, 0, 1), [1, 1, 1]), (stops(3, 50, 5), [1, 0]), (power(1, 3, 50, 0, 0), [1]),
            (who(3, 50, 5), [2, 0, 1]), (valid(3, 50, 5, 0, 1), [1, 1, 2]), (stops(3, 50, 5), [3, 0, 1, 2]),
            (signs(3, 50, 2), [0]), (valid(3, 50, 5, 0, 1), [1, 2, 2]), (stops(3, 50, 5), [1, 0]),
            (away(1, 5, 6), [0]), (who(3, 50, 5), [2, 0, 2]), (valid(3, 50, 5, 0, 1), [0, 2, 1]), (stops(3, 50, 5), [1, 0]),
        )

    def test_most_and_turns_step_by_step(self):
        self.assert_step_by_step(
            (begins(1), [0]), (office(0), [0]), (most(0, 3, 5), [-6]), (turns(0, 3, 50, 5), [-6]),
            (power(0, 3, 50, 8, 0), [0]), (most(0, 3, 5), [-6]), (turns(0, 3, 50, 5), [8]), (power(0, 3, 60, 4, 7), [1]),
            (most(0, 3, 5), [60]), (turns(0, 3, 50, 5), [7]), (turns(0, 3, 50, 7), [8]), (away(0, 6, 7), [0]),
            (turns(0, 3, 50, 5), [6]), (turns(0, 3, 50, 6), [8]),
        )

    def test_what_was_refused_is_not_seen(self):
        self.assert_step_by_step(
            (begins(2), [0]), (office(0), [0]), (office(1), [1]), (power(0, 3, 50, 0, 0), [0]),
            (power(1, 3, 1000000001, 0, 0), [-1]), (hand(0, 1, 3, 50, 1, 5, 5), [-1]), (signs(3, 0, 9), [-1]),
            (away(0, 9, 9), [-1]), (term(0, 1, 100000, 0), [-1]), (office(1, 1), [-1]), (begins(9), [-1]),
            (who(3, 50, 9), [1, 0]), (valid(3, 50, 9, 0), [1, 1, 1]), (turns(0, 3, 50, 0), [-6]), (acts(2, 0), [-2]),
        )

    def test_a_refused_ends_leaves_the_end_as_it_was(self):
        self.assert_step_by_step(
            (begins(2), [0]), (office(0), [0]), (office(1), [1]), (power(0, 3, 50, 0, 0), [0]),
            (hand(0, 1, 3, 50, 0, 5, 9), [0]), (ends(0, 5), [-1]), (ends(0, 100000), [-1]), (ends(1, 7), [-2]),
            (turns(1, 3, 50, 5), [9]),
        )

    def test_a_second_begins_in_the_middle(self):
        once = told(*TOLD, *ASKED)
        self.assertEqual(told(*TOLD, *ASKED, *TOLD, *ASKED), once + once)
        self.assert_step_by_step(
            (begins(2), [0]), (office(0), [0]), (office(1), [1]), (power(0, 3, 50, 0, 0), [0]), (away(1, 0, 0), [0]),
            (signs(3, 0, 2), [0]), (hand(0, 1, 3, 50, 0, 0, 0), [0]), (who(3, 50, 5), [1, 0]), (begins(3), [0]),
            (acts(0, 5), [-2]), (who(3, 50, 5), [0]), (may(2, 3, 50, 5), [0]), (valid(3, 50, 5, 2), [0, 1, 0]),
            (stops(3, 50, 5), [0]), (most(2, 3, 5), [-6]), (turns(0, 3, 50, 5), [-6]), (office(1), [0]),
            (power(0, 3, 50, 0, 0), [0]), (who(3, 50, 5), [1, 1]), (begins(0), [0]), (may(0, 3, 50, 5), [-2]),
        )

    def test_a_refused_begins_in_the_middle(self):
        self.assertEqual(told(*TOLD, begins(9), *ASKED)[len(TOLD) + 1:], told(*TOLD, *ASKED)[len(TOLD):])

    def test_calling_twice_answers_the_same(self):
        calls = one_list(TOLD + ASKED)
        handed_in = list(calls)
        first = answers(calls)
        self.assertEqual(calls, handed_in)
        self.assertEqual(answers(calls), first)
        self.assertEqual(calls, handed_in)
