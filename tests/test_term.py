from tests.helper import GREATEST, CallTest, begins, house_after, office, term, told

HOUSE = [begins(2), office(), office(1)]
FULL = HOUSE + [term(0, 0, day, day + 1) for day in range(20)]


def days(first, end, last=12):
    return set(range(first, end or last))


class TermTest(CallTest):
    def test_an_office_is_held(self):
        self.assertEqual(told(*HOUSE, term(0, 0, 5, 9), term(1, 1, 0, 0))[-2:], [[0], [0]])
        self.assertEqual(
            [vars(row) for row in house_after(*HOUSE, term(0, 1, 5, 9)).terms],
            [{"office": 0, "person": 1, "first": 5, "end": 9}],
        )

    def test_no_such_office_or_person(self):
        for row in (term(2, 0, 0, 0), term(0, 2, 0, 0), term(GREATEST, 0, 0, 0), term(0, GREATEST, 0, 0)):
            self.assert_refused(HOUSE, row, -2)

    def test_the_last_day(self):
        for first, end in ((99999, 0), (99998, 99999), (0, 99999)):
            self.assert_answer(HOUSE, term(0, 0, first, end), 0)
        for first, end in ((100000, 0), (0, 100000), (99999, 100000), (100000, 100001), (GREATEST, 0), (0, GREATEST)):
            self.assert_refused(HOUSE, term(0, 0, first, end), -1)

    def test_up_to_must_be_behind_from(self):
        for first, end in ((5, 6), (5, 0), (0, 0), (0, 1)):
            self.assert_answer(HOUSE, term(0, 0, first, end), 0)
        for first, end in ((5, 5), (5, 4), (5, 1), (99999, 99999), (99999, 1)):
            self.assert_refused(HOUSE, term(0, 0, first, end), -1)

    def test_held_on_one_of_these_days(self):
        spans = [(first, end) for first in range(7) for end in range(8) if end == 0 or end > first]
        for held in spans:
            before = HOUSE + [term(0, 0, *held)]
            for asked in spans:
                if days(*held) & days(*asked):
                    self.assert_refused(before, term(0, 1, *asked), -3)
                else:
                    self.assert_answer(before, term(0, 1, *asked), 0)

    def test_terms_that_meet_on_one_day(self):
        before = HOUSE + [term(0, 0, 10, 20)]
        self.assert_refused(before, term(0, 1, 19, 30), -3)
        self.assert_refused(before, term(0, 1, 5, 11), -3)

    def test_terms_that_touch_without_a_common_day(self):
        before = HOUSE + [term(0, 0, 10, 20)]
        self.assert_answer(before, term(0, 1, 20, 30), 0)
        self.assert_answer(before, term(0, 1, 5, 10), 0)
        self.assert_answer(before, term(0, 1, 20, 0), 0)

    def test_terms_without_end(self):
        before = HOUSE + [term(0, 0, 10, 0)]
        self.assert_answer(before, term(0, 1, 0, 10), 0)
        for first, end in ((0, 11), (0, 0), (99999, 0), (99998, 99999), (10, 0)):
            self.assert_refused(before, term(0, 1, first, end), -3)

    def test_the_last_days_without_end(self):
        self.assert_answer(HOUSE + [term(0, 0, 0, 99999)], term(0, 1, 99999, 0), 0)
        self.assert_refused(HOUSE + [term(0, 0, 99999, 0)], term(0, 1, 99999, 0), -3)

    def test_the_same_person_again_is_held_too(self):
        self.assert_refused(HOUSE + [term(0, 0, 10, 20)], term(0, 0, 10, 20), -3)

    def test_every_earlier_term_counts(self):
        before = HOUSE + [term(0, 0, 10, 20), term(0, 1, 30, 40), term(0, 0, 50, 60)]
        for first in (10, 30, 50):
            self.assert_refused(before, term(0, 1, first + 5, first + 6), -3)
            self.assert_answer(before, term(0, 1, first + 10, first + 20), 0)

    def test_the_same_days_in_another_office(self):
        self.assert_answer(HOUSE + [term(0, 0, 10, 20)], term(1, 0, 10, 20), 0)
        self.assert_answer(HOUSE + [term(0, 0, 0, 0)], term(1, 1, 0, 0), 0)

    def test_a_refused_term_holds_nothing(self):
        self.assertEqual(
            told(*HOUSE, term(0, 0, 10, 20), term(0, 1, 15, 30), term(0, 1, 20, 30))[-3:], [[0], [-3], [0]],
        )

    def test_twenty_terms_and_one_more(self):
        self.assert_answer(FULL[:-1], FULL[-1], 0)
        self.assert_refused(FULL, term(0, 0, 50, 51), -5)
        self.assert_refused(FULL, term(1, 0, 0, 0), -5)

    def test_the_refusal_told_first_counts(self):
        for row in (term(2, 0, 5, 5), term(0, 2, 100000, 0), term(2, 0, 0, 0), term(0, 2, 0, 0)):
            self.assert_refused(FULL, row, -2)
        for row in (term(0, 0, 5, 5), term(0, 0, 100000, 0), term(0, 0, 0, 100000), term(1, 0, 9, 8)):
            self.assert_refused(FULL, row, -1)
        self.assert_refused(FULL, term(0, 0, 19, 25), -3)
        self.assert_refused(FULL, term(0, 0, 0, 0), -3)
