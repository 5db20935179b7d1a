from tests.helper import GREATEST, CallTest, begins, hand, house_after, office, power, told

HOUSE = [office(), office()]
FULL = HOUSE + [power(0, 0, 0, 0, 0)] * 20


class PowerTest(CallTest):
    def test_powers_are_numbered_from_0_in_the_house(self):
        self.assertEqual(
            told(*HOUSE, power(1, 3, 500, 5, 9), power(0, 3, 500, 5, 9), power(1, 3, 500, 5, 9))[2:], [[0], [1], [2]],
        )

    def test_a_refused_power_takes_no_number(self):
        self.assertEqual(
            told(*HOUSE, power(0, 0, 0, 0, 0), power(2, 0, 0, 0, 0), power(0, 10, 0, 0, 0), power(0, 0, 0, 0, 0))[2:],
            [[0], [-2], [-1], [1]],
        )

    def test_delegations_are_numbered_apart(self):
        self.assert_answer(HOUSE + [hand(0, 1, 0, 0, 0, 0, 0)], power(0, 0, 0, 0, 0), 0)

    def test_the_power_is_kept(self):
        self.assertEqual(
            [vars(row) for row in house_after(*HOUSE, power(1, 3, 500, 5, 9)).powers],
            [{"office": 1, "kind": 3, "amount": 500, "first": 5, "end": 9}],
        )

    def test_no_such_office(self):
        for number in (2, 3, GREATEST):
            self.assert_refused(HOUSE, power(number, 0, 0, 0, 0), -2)
        self.assert_refused([begins(8)], power(0, 0, 0, 0, 0), -2)

    def test_kinds(self):
        for kind in range(10):
            self.assert_answer(HOUSE, power(0, kind, 0, 0, 0), 0)
        for kind in (10, GREATEST):
            self.assert_refused(HOUSE, power(0, kind, 0, 0, 0), -1)

    def test_amounts(self):
        for amount in (0, 1, 1000000000):
            self.assert_answer(HOUSE, power(0, 0, amount, 0, 0), 0)
        for amount in (1000000001, GREATEST):
            self.assert_refused(HOUSE, power(0, 0, amount, 0, 0), -1)

    def test_the_last_day(self):
        for first, end in ((99999, 0), (99998, 99999)):
            self.assert_answer(HOUSE, power(0, 0, 0, first, end), 0)
        for first, end in ((100000, 0), (0, 100000), (100000, 100001), (GREATEST, 0), (0, GREATEST)):
            self.assert_refused(HOUSE, power(0, 0, 0, first, end), -1)

    def test_up_to_must_be_behind_from(self):
        for first, end in ((5, 6), (5, 0), (0, 0), (0, 1)):
            self.assert_answer(HOUSE, power(0, 0, 0, first, end), 0)
        for first, end in ((5, 5), (5, 4), (99999, 99999)):
            self.assert_refused(HOUSE, power(0, 0, 0, first, end), -1)

    def test_twenty_powers_and_one_more(self):
        self.assert_answer(FULL[:-1], FULL[-1], 19)
        self.assert_refused(FULL, power(0, 0, 0, 0, 0), -5)
        self.assert_refused(FULL, power(1, 9, 5, 3, 4), -5)

    def test_the_refusal_told_first_counts(self):
        self.assert_refused(HOUSE, power(2, 10, 1000000001, 5, 5), -2)
        self.assert_refused(FULL, power(2, 10, 0, 0, 0), -2)
        self.assert_refused(FULL, power(2, 0, 0, 0, 0), -2)
        for row in (power(0, 10, 0, 0, 0), power(0, 0, 1000000001, 0, 0), power(0, 0, 0, 5, 5),
                    power(0, 0, 0, 100000, 0), power(0, 0, 0, 0, 100000)):
            self.assert_refused(FULL, row, -1)
