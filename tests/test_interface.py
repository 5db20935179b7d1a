import contextlib
import io
import unittest

from signedpowers.house import answers
from tests.helper import (
    GREATEST, acts, away, begins, ends, hand, may, most, office, one_list, power, signs, stops, term, turns, valid, who,
)

MIXED = [
    (begins(3), [0]), (office(0, 2), [0]), (office(), [1]), (office(1, 1), [-1]), (term(0, 1, 0, 50), [0]),
    (term(0, 2, 49, 0), [-3]), (away(1, 5, 9), [0]), (acts(0, 4), [1, 1]), (acts(0, 5), [1, 0]), (acts(1, 5), [0]),
    (acts(2, 5), [-2]), (power(0, 4, 1000, 0, 0), [0]), (power(0, 4, 2000, 7, 7), [-1]), (may(1, 4, 1000, 4), [1, 0]),
    (hand(0, 1, 4, 500, 1, 0, 0), [0]), (hand(0, 3, 4, 500, 1, 0, 0), [-2]), (may(2, 4, 500, 4), [0]),
    (term(1, 2, 0, 0), [0]), (may(2, 4, 500, 4), [1, 1, 0]), (who(4, 500, 4), [2, 1, 2]), (signs(4, 100, 2), [0]),
    (signs(4, 100, 3), [-3]), (valid(4, 500, 4, 1, 2, 1), [1, 2, 2]), (valid(4, 99, 4), [0, 1, 0]),
    (most(2, 4, 4), [500]), (most(0, 4, 4), [-6]), (turns(2, 4, 500, 4), [-6]), (ends(0, 30), [0]), (ends(1, 30), [-2]),
    (turns(2, 4, 500, 4), [30]), (stops(4, 500, 4), [1, 2]), (stops(4, 99, 4), [3, 0, 1, 2]),
    (begins(9), [-1]), (away(3, 0, 0), [-2]),
]
MIXED_CALLS = one_list(call for call, answer in MIXED)
MIXED_ANSWERS = one_list([len(answer), *answer] for call, answer in MIXED)


class Unchangeable(list):
    """A list that tells when it is changed, for a while only, too."""

    def refuse(self, *given, **named):
        raise RuntimeError("what was handed in is changed")

    __setitem__ = __delitem__ = __iadd__ = __imul__ = refuse
    append = extend = insert = pop = remove = clear = sort = reverse = refuse


class InterfaceTest(unittest.TestCase):
    def test_each_answer_has_its_count_ahead(self):
        self.assertEqual(answers([0, 8]), [1, 0])
        self.assertEqual(answers([0, 9]), [1, -1])

    def test_how_each_call_stands_in_the_list(self):
        self.assertEqual(
            answers([
                0, 8,
                1, 2, 7, 0,
                1, 0,
                2, 1, 7, 3, 4,
                3, 6, 3, 4,
                4, 1, 9, 5, 3, 4,
                5, 1, 0, 9, 5, 1, 3, 4,
                6, 9, 5, 8,
                7, 0, 99999,
                8, 1, 3,
                9, 7, 9, 5, 3,
                10, 9, 5, 3,
                11, 9, 5, 3, 0,
                11, 9, 5, 3, 2, 7, 0,
                12, 7, 9, 3,
                13, 7, 9, 5, 2,
                14, 9, 5, 3,
                14, 9, 4, 3,
                0, 0,
            ]),
            [
                1, 0, 1, 0, 1, 1, 1, 0, 1, 0, 1, 0, 1, 0, 1, 0, 1, 0,
                2, 1, 7, 3, 1, 0, 0, 2, 1, 7, 3, 0, 8, 0, 3, 0, 8, 1, 1, 5, 1, 3, 1, 0, 3, 2, 0, 7, 1, 0,
            ],
        )

    def test_several_calls_in_one_list(self):
        self.assertEqual(answers(MIXED_CALLS), MIXED_ANSWERS)

    def test_any_call_may_be_first(self):
        for call, answer in (
            (begins(1), 0), (office(), 0), (office(0), -2), (term(0, 0, 0, 0), -2), (away(0, 0, 0), -2),
            (power(0, 0, 0, 0, 0), -2), (hand(0, 1, 0, 0, 0, 0, 0), -2), (signs(0, 0, 1), 0), (ends(0, 1), -2),
            (acts(0, 0), -2), (may(0, 0, 0, 0), -2), (who(0, 0, 0), 0), (who(10, 0, 0), -1), (valid(0, 0, 0, 0), -2),
            (most(0, 0, 0), -2), (turns(0, 0, 0, 0), -2), (stops(0, 0, 0), 0), (stops(10, 0, 0), -1),
        ):
            self.assertEqual(answers(call), [1, answer], call)
        self.assertEqual(answers(valid(0, 0, 0)), [3, 0, 1, 0])

    def test_a_row_of_twelve(self):
        self.assertEqual(answers([0, 8, 1, 12] + [7] * 12 + [1, 1, 7]), [1, 0, 1, -1, 1, 0])
        self.assertEqual(answers([0, 8, 11, 0, 0, 0, 12] + [7] * 12 + [0, 9]), [1, 0, 3, 0, 1, 0, 1, -1])
        self.assertEqual(answers([0, 8, 11, 0, 0, 0, 12] + [8] * 12 + [0, 9]), [1, 0, 1, -2, 1, -1])

    def test_the_greatest_numbers_that_may_be_handed_in(self):
        greatest = [
            begins(GREATEST), office(*[GREATEST] * 12), term(*[GREATEST] * 4), away(*[GREATEST] * 3),
            power(*[GREATEST] * 5), hand(*[GREATEST] * 4, 1, *[GREATEST] * 2), signs(*[GREATEST] * 3),
            ends(*[GREATEST] * 2), acts(*[GREATEST] * 2), may(*[GREATEST] * 4), who(*[GREATEST] * 3),
            valid(*[GREATEST] * 15), most(*[GREATEST] * 3), turns(*[GREATEST] * 4), stops(*[GREATEST] * 3),
        ]
        self.assertEqual(
            answers(one_list(greatest)),
            one_list([1, number] for number in (-1, -2, -2, -2, -2, -2, -1, -2, -2, -2, -1, -2, -2, -2, -1)),
        )

    def test_eighty_calls(self):
        calls = [begins(8)] + [office(*range(8))] * 79
        self.assertEqual(
            answers(one_list(calls)), [1, 0] + one_list([1, number] for number in range(8)) + [1, -5] * 71,
        )

    def test_what_is_handed_in_is_not_changed(self):
        calls = Unchangeable(MIXED_CALLS)
        given = answers(calls)
        self.assertEqual(calls, MIXED_CALLS)
        self.assertIsNot(given, calls)

    def test_nothing_is_kept_from_one_time_to_the_next(self):
        first = answers(MIXED_CALLS)
        answers(one_list([begins(8)] + [office()] * 8))
        self.assertEqual(answers([1, 0]), [1, 0])
        self.assertEqual(answers([3, 0, 0, 0]), [1, -2])
        self.assertEqual(answers(MIXED_CALLS), first)

    def test_changing_what_was_given_back_changes_no_later_answer(self):
        given = answers(MIXED_CALLS)
        given.clear()
        self.assertEqual(answers(MIXED_CALLS), MIXED_ANSWERS)

    def test_a_list_of_whole_numbers_is_given_back(self):
        given = answers(MIXED_CALLS)
        self.assertIs(type(given), list)
        for number in given:
            self.assertIs(type(number), int)

    def test_the_argument_is_called_calls(self):
        self.assertEqual(answers(calls=[0, 8]), [1, 0])

    def test_nothing_is_printed(self):
        printed = io.StringIO()
        with contextlib.redirect_stdout(printed), contextlib.redirect_stderr(printed):
            answers(MIXED_CALLS)
        self.assertEqual(printed.getvalue(), "")
