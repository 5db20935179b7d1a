from tests.helper import GREATEST, CallTest, ends, hand, house_after, office, told

HOUSE = [office(), office(), hand(0, 1, 0, 0, 0, 5, 9), hand(1, 0, 2, 3, 1, 0, 0), hand(0, 1, 0, 0, 0, 99999, 0)]


class EndsTest(CallTest):
    def test_the_delegation_ends_that_day(self):
        for day in (6, 9, 20, 99999):
            self.assert_answer(HOUSE, ends(0, day), 0)
            house = house_after(*HOUSE, ends(0, day))
            self.assertEqual([row.end for row in house.delegations], [day, 0, 0])

    def test_nothing_else_of_it_is_changed(self):
        self.assertEqual(
            vars(house_after(*HOUSE, ends(1, 7)).delegations[1]),
            {"office": 1, "receiver": 0, "kind": 2, "amount": 3, "further": 1, "first": 0, "end": 7},
        )

    def test_again_earlier_and_later(self):
        self.assertEqual(told(*HOUSE, ends(0, 20), ends(0, 6), ends(0, 30), ends(0, 30))[5:], [[0], [0], [0], [0]])
        self.assertEqual(house_after(*HOUSE, ends(0, 20), ends(0, 6), ends(0, 30)).delegations[0].end, 30)

    def test_the_first_day_and_a_day_later(self):
        for number, first in ((0, 5), (1, 0)):
            self.assert_refused(HOUSE, ends(number, first), -1)
            self.assert_answer(HOUSE, ends(number, first + 1), 0)

    def test_earlier_than_the_first_day(self):
        for day in (0, 1, 4):
            self.assert_refused(HOUSE, ends(0, day), -1)

    def test_0_is_not_without_end(self):
        for number in range(3):
            self.assert_refused(HOUSE, ends(number, 0), -1)

    def test_the_last_day(self):
        self.assert_answer(HOUSE, ends(1, 99999), 0)
        for number in range(3):
            for day in (100000, GREATEST):
                self.assert_refused(HOUSE, ends(number, day), -1)
        self.assert_refused(HOUSE, ends(2, 99999), -1)

    def test_the_first_day_stays_the_measure(self):
        self.assert_refused(HOUSE + [ends(0, 8)], ends(0, 5), -1)
        self.assert_answer(HOUSE + [ends(0, 8)], ends(0, 6), 0)

    def test_no_such_delegation(self):
        for number in (3, 4, GREATEST):
            self.assert_refused(HOUSE, ends(number, 50), -2)
        self.assert_refused([], ends(0, 50), -2)

    def test_the_refusal_told_first_counts(self):
        for day in (0, 100000, GREATEST):
            self.assert_refused(HOUSE, ends(3, day), -2)
