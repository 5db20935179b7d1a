from tests.helper import GREATEST, CallTest, ends, hand, house_after, office, power, told

HOUSE = [office(), office(), office()]
FULL = HOUSE + [hand(0, 1, 0, 0, 0, 0, 0)] * 20


class HandTest(CallTest):
    def test_delegations_are_numbered_from_0_in_the_house(self):
        self.assertEqual(
            told(*HOUSE, hand(1, 0, 3, 500, 1, 5, 9), hand(0, 2, 3, 500, 0, 5, 9), hand(1, 0, 3, 500, 1, 5, 9))[3:],
            [[0], [1], [2]],
        )

    def test_a_refused_delegation_takes_no_number(self):
        self.assertEqual(
            told(*HOUSE, hand(0, 1, 0, 0, 0, 0, 0), hand(0, 3, 0, 0, 0, 0, 0), hand(0, 0, 0, 0, 0, 0, 0),
                 hand(1, 0, 0, 0, 0, 0, 0))[3:],
            [[0], [-2], [-1], [1]],
        )

    def test_powers_are_numbered_apart(self):
        self.assert_answer(HOUSE + [power(0, 0, 0, 0, 0)], hand(0, 1, 0, 0, 0, 0, 0), 0)

    def test_the_delegation_is_kept(self):
        self.assertEqual(
            [vars(row) for row in house_after(*HOUSE, hand(1, 2, 3, 500, 1, 5, 9), hand(2, 0, 4, 6, 0, 7, 0)).delegations],
            [
                {"office": 1, "receiver": 2, "kind": 3, "amount": 500, "further": 1, "first": 5, "end": 9},
                {"office": 2, "receiver": 0, "kind": 4, "amount": 6, "further": 0, "first": 7, "end": 0},
            ],
        )

    def test_the_delegation_is_there_for_later_calls(self):
        before = HOUSE + [hand(0, 1, 0, 0, 0, 3, 0)]
        self.assert_answer(before, ends(0, 4), 0)
        self.assert_refused(before, ends(1, 4), -2)

    def test_no_power_is_asked_for(self):
        self.assert_answer(HOUSE, hand(2, 1, 9, 1000000000, 1, 0, 0), 0)

    def test_there_and_back(self):
        self.assert_answer(HOUSE + [hand(0, 1, 0, 0, 1, 0, 0)], hand(1, 0, 0, 0, 1, 0, 0), 1)

    def test_no_such_office(self):
        for number in (3, 4, GREATEST):
            self.assert_refused(HOUSE, hand(number, 0, 0, 0, 0, 0, 0), -2)
            self.assert_refused(HOUSE, hand(0, number, 0, 0, 0, 0, 0), -2)

    def test_to_the_same_office(self):
        for number in range(3):
            self.assert_refused(HOUSE, hand(number, number, 0, 0, 0, 0, 0), -1)

    def test_kinds(self):
        for kind in range(10):
            self.assert_answer(HOUSE, hand(0, 1, kind, 0, 0, 0, 0), 0)
        for kind in (10, GREATEST):
            self.assert_refused(HOUSE, hand(0, 1, kind, 0, 0, 0, 0), -1)

    def test_amounts(self):
        for amount in (0, 1, 1000000000):
            self.assert_answer(HOUSE, hand(0, 1, 0, amount, 1, 0, 0), 0)
        for amount in (1000000001, GREATEST):
            self.assert_refused(HOUSE, hand(0, 1, 0, amount, 1, 0, 0), -1)

    def test_the_last_day(self):
        for first, end in ((99999, 0), (99998, 99999)):
            self.assert_answer(HOUSE, hand(0, 1, 0, 0, 0, first, end), 0)
        for first, end in ((100000, 0), (0, 100000), (100000, 100001), (GREATEST, 0), (0, GREATEST)):
            self.assert_refused(HOUSE, hand(0, 1, 0, 0, 0, first, end), -1)

    def test_up_to_must_be_behind_from(self):
        for first, end in ((5, 6), (5, 0), (0, 0), (0, 1)):
            self.assert_answer(HOUSE, hand(0, 1, 0, 0, 0, first, end), 0)
        for first, end in ((5, 5), (5, 4), (99999, 99999)):
            self.assert_refused(HOUSE, hand(0, 1, 0, 0, 0, first, end), -1)

    def test_twenty_delegations_and_one_more(self):
        self.assert_answer(FULL[:-1], FULL[-1], 19)
        self.assert_refused(FULL, hand(0, 1, 0, 0, 0, 0, 0), -5)
        self.assert_refused(FULL, hand(2, 1, 9, 5, 1, 3, 4), -5)

    def test_an_ended_delegation_still_counts(self):
        self.assert_refused(FULL + [ends(3, 1)], hand(0, 1, 0, 0, 0, 0, 0), -5)

    def test_the_refusal_told_first_counts(self):
        self.assert_refused(HOUSE, hand(3, 3, 0, 0, 0, 0, 0), -2)
        self.assert_refused(HOUSE, hand(0, 3, 10, 1000000001, 1, 5, 5), -2)
        self.assert_refused(FULL, hand(3, 0, 10, 0, 0, 0, 0), -2)
        self.assert_refused(FULL, hand(0, 3, 0, 0, 0, 0, 0), -2)
        for row in (hand(0, 0, 0, 0, 0, 0, 0), hand(0, 1, 10, 0, 0, 0, 0), hand(0, 1, 0, 1000000001, 0, 0, 0),
                    hand(0, 1, 0, 0, 0, 5, 5), hand(0, 1, 0, 0, 0, 100000, 0), hand(0, 1, 0, 0, 0, 0, 100000)):
            self.assert_refused(FULL, row, -1)
