import contextlib
import io
import unittest

from signedpowers.house import answers
from tests.helper import away, begins, ends, hand, office, one_list, power, signs, term

MIXED = [
    begins(3), office(0, 2), office(), office(1, 1), term(0, 1, 0, 50), term(0, 2, 49, 0), away(1, 5, 9),
    power(0, 4, 1000, 0, 0), power(0, 4, 2000, 7, 7), hand(0, 1, 4, 500, 1, 0, 0), hand(0, 3, 4, 500, 1, 0, 0),
    signs(4, 100, 2), signs(4, 100, 3), ends(0, 30), ends(1, 30), begins(9), away(3, 0, 0),
]
MIXED_ANSWERS = [0, 0, 1, -1, 0, -3, 0, 0, -1, 0, -2, 0, -3, 0, -2, -1, -2]


class Unchangeable(list):
    """A list that tells when it is changed, for a while only, too."""

    def refuse(self, *given, **named):
        raise RuntimeError("what was handed in is changed")

    __setitem__ = __delitem__ = __iadd__ = __imul__ = refuse
    append = extend = insert = pop = remove = clear = sort = reverse = refuse


class InterfaceTest(unittest.TestCase):
    def test_each_answer_has_its_count_ahead(self):
        self.assertEqual(answers([0, 8]), [1, 0])
        self.assertEqual(answers([0, 9]), [1, -1])

    def test_how_each_call_stands_in_the_list(self):
        self.assertEqual(
            answers([
                0, 8,
                1, 2, 7, 0,
                1, 0,
                2, 1, 7, 3, 4,
                3, 7, 3, 4,
                4, 1, 9, 5, 3, 4,
                5, 1, 0, 9, 5, 1, 3, 4,
                6, 9, 5, 8,
                7, 0, 99999,
            ]),
            [1, 0, 1, 0, 1, 1, 1, 0, 1, 0, 1, 0, 1, 0, 1, 0, 1, 0],
        )

    def test_several_calls_in_one_list(self):
        self.assertEqual(answers(one_list(MIXED)), one_list([1, number] for number in MIXED_ANSWERS))

    def test_any_call_may_be_first(self):
        for call, answer in (
            (begins(1), 0), (office(), 0), (office(0), -2), (term(0, 0, 0, 0), -2), (away(0, 0, 0), -2),
            (power(0, 0, 0, 0, 0), -2), (hand(0, 1, 0, 0, 0, 0, 0), -2), (signs(0, 0, 1), 0), (ends(0, 1), -2),
        ):
            self.assertEqual(answers(call), [1, answer], call)

    def test_a_row_of_twelve(self):
        self.assertEqual(answers([0, 8, 1, 12] + [7] * 12 + [1, 1, 7]), [1, 0, 1, -1, 1, 0])

    def test_eighty_calls(self):
        calls = [begins(8)] + [office(*range(8))] * 79
        self.assertEqual(
            answers(one_list(calls)), [1, 0] + one_list([1, number] for number in range(8)) + [1, -5] * 71,
        )

    def test_what_is_handed_in_is_not_changed(self):
        calls = Unchangeable(one_list(MIXED))
        given = answers(calls)
        self.assertEqual(calls, one_list(MIXED))
        self.assertIsNot(given, calls)

    def test_nothing_is_kept_from_one_time_to_the_next(self):
        first = answers(one_list(MIXED))
        answers(one_list([begins(8)] + [office()] * 8))
        self.assertEqual(answers([1, 0]), [1, 0])
        self.assertEqual(answers([3, 0, 0, 0]), [1, -2])
        self.assertEqual(answers(one_list(MIXED)), first)

    def test_changing_what_was_given_back_changes_no_later_answer(self):
        given = answers(one_list(MIXED))
        given.clear()
        self.assertEqual(answers(one_list(MIXED)), one_list([1, number] for number in MIXED_ANSWERS))

    def test_a_list_of_whole_numbers_is_given_back(self):
        given = answers(one_list(MIXED))
        self.assertIs(type(given), list)
        for number in given:
            self.assertIs(type(number), int)

    def test_the_argument_is_called_calls(self):
        self.assertEqual(answers(calls=[0, 8]), [1, 0])

    def test_nothing_is_printed(self):
        printed = io.StringIO()
        with contextlib.redirect_stdout(printed), contextlib.redirect_stderr(printed):
            answers(one_list(MIXED))
        self.assertEqual(printed.getvalue(), "")
