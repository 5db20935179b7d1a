from tests.helper import GREATEST, CallTest, begins, house_after, office, power, term, told


class OfficeTest(CallTest):
    def test_offices_are_numbered_from_0(self):
        self.assertEqual(
            told(begins(8), office(), office(3), office(7, 0, 5), office(0, 1, 2, 3, 4, 5, 6, 7)),
            [[0], [0], [1], [2], [3]],
        )

    def test_a_refused_office_takes_no_number(self):
        self.assertEqual(told(begins(2), office(), office(2), office(1, 1), office(1)), [[0], [0], [-2], [-1], [1]])

    def test_the_office_is_there_for_later_calls(self):
        calls = [begins(1), office(), office(0)]
        self.assert_answer(calls, term(1, 0, 0, 0), 0)
        self.assert_answer(calls, power(1, 0, 0, 0, 0), 0)
        self.assert_refused(calls, term(2, 0, 0, 0), -2)

    def test_deputies_keep_their_order(self):
        house = house_after(begins(4), office(3, 0, 2), office(), office(0, 1))
        self.assertEqual(house.offices, [[3, 0, 2], [], [0, 1]])

    def test_no_such_deputy(self):
        self.assert_answer([begins(3)], office(2), 0)
        for deputies in ([3], [GREATEST], [0, 1, 3], [3, 0, 1], [0] * 11 + [3]):
            self.assert_refused([begins(3)], office(*deputies), -2)

    def test_a_deputy_told_twice(self):
        for deputies in ([0, 0], [0, 1, 0], [2, 1, 1], [0] * 12):
            self.assert_refused([begins(3)], office(*deputies), -1)

    def test_eight_offices_and_a_ninth(self):
        seven = [begins(1)] + [office()] * 7
        self.assert_answer(seven, office(0), 7)
        self.assert_refused(seven + [office()], office(0), -5)

    def test_the_refusal_told_first_counts(self):
        eight = [begins(2)] + [office()] * 8
        self.assert_refused([begins(2)], office(1, 1, 2), -2)
        self.assert_refused([begins(2)], office(2, 2), -2)
        self.assert_refused(eight, office(2), -2)
        self.assert_refused(eight, office(1, 1, 2), -2)
        self.assert_refused(eight, office(1, 1), -1)
