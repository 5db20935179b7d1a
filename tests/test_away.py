from tests.helper import GREATEST, CallTest, away, begins, house_after, told

FULL = [begins(2)] + [away(0, 0, 0)] * 20


class AwayTest(CallTest):
    def test_persons_are_away(self):
        self.assertEqual(told(begins(2), away(0, 5, 9), away(1, 0, 0)), [[0], [0], [0]])
        self.assertEqual(
            [vars(row) for row in house_after(begins(2), away(1, 5, 9)).absences],
            [{"person": 1, "first": 5, "end": 9}],
        )

    def test_absences_may_overlap(self):
        self.assertEqual(told(begins(1), away(0, 5, 9), away(0, 5, 9), away(0, 0, 0)), [[0], [0], [0], [0]])

    def test_no_such_person(self):
        for person in (2, 3, GREATEST):
            self.assert_refused([begins(2)], away(person, 0, 0), -2)

    def test_the_last_day(self):
        for first, end in ((99999, 0), (99998, 99999)):
            self.assert_answer([begins(1)], away(0, first, end), 0)
        for first, end in ((100000, 0), (0, 100000), (100000, 100001), (GREATEST, 0), (0, GREATEST)):
            self.assert_refused([begins(1)], away(0, first, end), -1)

    def test_up_to_must_be_behind_from(self):
        for first, end in ((5, 6), (5, 0), (0, 0), (0, 1)):
            self.assert_answer([begins(1)], away(0, first, end), 0)
        for first, end in ((5, 5), (5, 4), (99999, 99999)):
            self.assert_refused([begins(1)], away(0, first, end), -1)

    def test_twenty_absences_and_one_more(self):
        self.assert_answer(FULL[:-1], FULL[-1], 0)
        self.assert_refused(FULL, away(0, 0, 0), -5)
        self.assert_refused(FULL, away(1, 3, 4), -5)

    def test_refused_absences_are_not_counted(self):
        self.assert_answer(FULL[:-1] + [away(0, 5, 5), away(2, 0, 0)], away(0, 0, 0), 0)

    def test_the_refusal_told_first_counts(self):
        self.assert_refused([begins(1)], away(1, 5, 5), -2)
        for row in (away(2, 0, 0), away(2, 100000, 0), away(2, 5, 5)):
            self.assert_refused(FULL, row, -2)
        for row in (away(0, 100000, 0), away(0, 0, 100000), away(0, 5, 5)):
            self.assert_refused(FULL, row, -1)
