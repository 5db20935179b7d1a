from tests.helper import GREATEST, CallTest, acts, away, begins, office, term

HOUSE = [begins(4), office(1, 2), office(), term(0, 0, 10, 20)]


class ActsTest(CallTest):
    def test_the_holder(self):
        self.assert_asked(HOUSE, acts(0, 15), 1, 0)

    def test_the_holder_is_away(self):
        self.assert_asked(HOUSE + [away(0, 0, 0)], acts(0, 15), 1, 1)

    def test_no_holder(self):
        self.assert_asked(HOUSE, acts(0, 5), 1, 1)
        self.assert_asked(HOUSE, acts(0, 25), 1, 1)

    def test_the_holder_and_the_first_deputy_are_away(self):
        self.assert_asked(HOUSE + [away(0, 0, 0), away(1, 0, 0)], acts(0, 15), 1, 2)

    def test_the_first_deputy_is_away_and_there_is_no_holder(self):
        self.assert_asked(HOUSE + [away(1, 0, 0)], acts(0, 5), 1, 2)

    def test_a_deputy_is_away_while_the_holder_acts(self):
        self.assert_asked(HOUSE + [away(1, 0, 0), away(2, 0, 0)], acts(0, 15), 1, 0)

    def test_a_later_deputy_is_away(self):
        self.assert_asked(HOUSE + [away(0, 0, 0), away(2, 0, 0)], acts(0, 15), 1, 1)

    def test_all_are_away(self):
        self.assert_asked(HOUSE + [away(0, 0, 0), away(1, 0, 0), away(2, 0, 0)], acts(0, 15), 0)

    def test_no_deputies(self):
        held = HOUSE + [term(1, 3, 10, 20)]
        self.assert_asked(held, acts(1, 15), 1, 3)
        self.assert_asked(held, acts(1, 25), 0)
        self.assert_asked(held + [away(3, 0, 0)], acts(1, 15), 0)
        self.assert_asked(HOUSE, acts(1, 15), 0)

    def test_deputies_act_in_the_order_in_which_they_are_told(self):
        before = [begins(4), office(3, 0, 2)]
        self.assert_asked(before, acts(0, 0), 1, 3)
        self.assert_asked(before + [away(3, 0, 0)], acts(0, 0), 1, 0)
        self.assert_asked(before + [away(3, 0, 0), away(0, 0, 0)], acts(0, 0), 1, 2)

    def test_a_holder_who_is_a_deputy_too(self):
        before = [begins(3), office(2, 1), term(0, 1, 0, 0)]
        self.assert_asked(before, acts(0, 0), 1, 1)
        self.assert_asked(before + [away(1, 0, 0)], acts(0, 0), 1, 2)
        self.assert_asked(before + [away(1, 0, 0), away(2, 0, 0)], acts(0, 0), 0)

    def test_one_person_in_several_offices(self):
        before = [begins(2), office(), office(1), office(0), term(0, 1, 0, 0), term(2, 1, 0, 0)]
        for number in range(3):
            self.assert_asked(before, acts(number, 7), 1, 1)

    def test_the_term_of_another_office(self):
        self.assert_asked([begins(3), office(2), office(), term(1, 0, 0, 0)], acts(0, 0), 1, 2)

    def test_the_absence_of_another_person(self):
        self.assert_asked(HOUSE + [away(3, 0, 0)], acts(0, 15), 1, 0)

    def test_the_first_and_the_last_day_of_a_term(self):
        for day, person in ((9, 1), (10, 0), (19, 0), (20, 1)):
            self.assert_asked(HOUSE, acts(0, day), 1, person)

    def test_terms_one_behind_another(self):
        before = HOUSE + [term(0, 3, 20, 21), term(0, 2, 5, 10)]
        for day, person in ((4, 1), (5, 2), (9, 2), (10, 0), (19, 0), (20, 3), (21, 1)):
            self.assert_asked(before, acts(0, day), 1, person)

    def test_the_first_and_the_last_day_of_an_absence(self):
        before = HOUSE + [away(0, 12, 15)]
        for day, person in ((11, 0), (12, 1), (14, 1), (15, 0)):
            self.assert_asked(before, acts(0, day), 1, person)

    def test_an_absence_of_one_day(self):
        before = HOUSE + [away(0, 12, 13)]
        for day, person in ((11, 0), (12, 1), (13, 0)):
            self.assert_asked(before, acts(0, day), 1, person)

    def test_any_of_several_absences(self):
        before = HOUSE + [away(0, 11, 13), away(0, 12, 14), away(0, 16, 17)]
        for day, person in ((10, 0), (11, 1), (13, 1), (14, 0), (15, 0), (16, 1), (17, 0)):
            self.assert_asked(before, acts(0, day), 1, person)

    def test_without_end(self):
        before = [begins(2), office(), term(0, 0, 10, 0)]
        for day in (10, 11, 99999, 100000, GREATEST):
            self.assert_asked(before, acts(0, day), 1, 0)
        self.assert_asked(before, acts(0, 9), 0)
        gone = before + [away(0, 30, 0)]
        self.assert_asked(gone, acts(0, 29), 1, 0)
        for day in (30, 99999, 100000, GREATEST):
            self.assert_asked(gone, acts(0, day), 0)

    def test_the_earliest_day(self):
        self.assert_asked([begins(1), office(), term(0, 0, 0, 1)], acts(0, 0), 1, 0)
        self.assert_asked([begins(1), office(), term(0, 0, 1, 0)], acts(0, 0), 0)

    def test_a_day_far_behind_all_that_is_told(self):
        for day in (99999, 100000, 1000000001, GREATEST):
            self.assert_asked(HOUSE, acts(0, day), 1, 1)
        self.assert_asked([begins(1), office(), term(0, 0, 0, 99999)], acts(0, 99998), 1, 0)
        self.assert_asked([begins(1), office(), term(0, 0, 0, 99999)], acts(0, 99999), 0)

    def test_no_such_office(self):
        for number in (2, 3, GREATEST):
            for day in (15, GREATEST):
                self.assert_refused(HOUSE, acts(number, day), -2)
        self.assert_refused([begins(4)], acts(0, 0), -2)
        eight = [begins(1)] + [office(0)] * 8
        self.assert_asked(eight, acts(7, 0), 1, 0)
        self.assert_refused(eight, acts(8, 0), -2)
