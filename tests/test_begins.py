from tests.helper import (
    GREATEST, CallTest, away, begins, ends, hand, house_after, kept, office, power, signs, term, told,
)

FILLED = [
    begins(3), office(0, 1), office(), term(0, 2, 0, 0), away(1, 3, 9), power(0, 1, 50, 0, 0),
    hand(0, 1, 1, 40, 1, 0, 0), signs(1, 20, 2),
]


class BeginsTest(CallTest):
    def test_up_to_eight_persons(self):
        for many in range(9):
            self.assert_answer([], begins(many), 0)

    def test_more_than_eight_persons(self):
        for many in (9, 10, GREATEST):
            self.assert_refused([], begins(many), -1)

    def test_a_refused_begins_leaves_the_house_as_it_was(self):
        self.assert_refused(FILLED, begins(9), -1)
        self.assertEqual(told(begins(3), begins(9), away(2, 0, 0))[2], [0])

    def test_persons_are_numbered_from_0(self):
        for many in range(9):
            calls = [begins(many)]
            for person in range(many):
                self.assert_answer(calls, away(person, 0, 0), 0)
            self.assert_refused(calls, away(many, 0, 0), -2)

    def test_a_second_begins_empties_everything(self):
        self.assertEqual(kept(house_after(*FILLED, begins(2))), kept(house_after(begins(2))))

    def test_a_second_begins_is_seen_by_later_calls(self):
        again = FILLED + [begins(2)]
        self.assert_refused(again, term(0, 0, 0, 0), -2)
        self.assert_refused(again, power(0, 0, 0, 0, 0), -2)
        self.assert_refused(again, ends(0, 5), -2)
        self.assert_refused(again, away(2, 0, 0), -2)
        self.assert_answer(again, away(1, 0, 0), 0)
        self.assert_answer(again, signs(1, 20, 1), 0)
        self.assertEqual(
            told(*again, office(), office(), power(1, 1, 1, 0, 0), hand(1, 0, 1, 1, 0, 0, 0), term(0, 1, 0, 0))[-5:],
            [[0], [1], [0], [0], [0]],
        )

    def test_a_second_begins_makes_room_for_twenty_rows_again(self):
        full = [begins(1)] + [away(0, 0, 0)] * 20
        self.assert_refused(full, away(0, 0, 0), -5)
        self.assert_answer(full + [begins(1)], away(0, 0, 0), 0)

    def test_there_are_no_persons_at_the_beginning(self):
        self.assertEqual(kept(house_after()), kept(house_after(begins(0))))
        self.assert_refused([], away(0, 0, 0), -2)
        self.assert_refused([], office(0), -2)
        self.assert_answer([], office(), 0)
