from tests.helper import GREATEST, CallTest, away, begins, ends, hand, may, office, power, term, told_last, turns

HOUSE = [begins(4), office(), office(), term(0, 0, 0, 0), term(1, 1, 0, 0)]
OWN = HOUSE + [power(0, 3, 100, 0, 0)]


class TurnsTest(CallTest):
    def assert_turns(self, before, person, *days_and_answers):
        for day, answer in days_and_answers:
            self.assert_asked(before, turns(person, 3, 100, day), answer)

    def test_there_is_no_such_day(self):
        for day in (0, 5, 99998, 99999, 100000, GREATEST):
            self.assert_asked(OWN, turns(0, 3, 100, day), -6)
            self.assert_asked(OWN, turns(1, 3, 100, day), -6)
            self.assert_asked([begins(1)], turns(0, 3, 100, day), -6)

    def test_by_terms(self):
        before = [begins(2), office(), power(0, 3, 100, 0, 0), term(0, 0, 30, 40), term(0, 0, 10, 20), term(0, 1, 20, 25)]
        self.assert_turns(
            before, 0, (0, 10), (8, 10), (9, 10), (10, 20), (19, 20), (20, 30), (29, 30), (30, 40), (39, 40), (40, -6),
            (GREATEST, -6),
        )
        self.assert_turns(before, 1, (0, 20), (19, 20), (20, 25), (24, 25), (25, -6))

    def test_by_a_term_without_end(self):
        before = [begins(1), office(), power(0, 3, 100, 0, 0), term(0, 0, 10, 0)]
        self.assert_turns(before, 0, (0, 10), (9, 10), (10, -6), (GREATEST, -6))

    def test_by_terms_that_touch(self):
        before = [begins(1), office(), power(0, 3, 100, 0, 0), term(0, 0, 10, 20), term(0, 0, 20, 30)]
        self.assert_turns(before, 0, (10, 30), (19, 30), (20, 30), (29, 30), (30, -6))

    def test_by_absences(self):
        before = OWN + [away(0, 10, 20), away(0, 15, 25), away(0, 40, 0)]
        self.assert_turns(
            before, 0, (0, 10), (9, 10), (10, 25), (15, 25), (20, 25), (24, 25), (25, 40), (39, 40), (40, -6),
        )

    def test_by_the_absence_of_somebody_else(self):
        before = [begins(3), office(1, 2), term(0, 0, 0, 0), power(0, 3, 100, 0, 0), away(0, 10, 20), away(1, 12, 16)]
        self.assert_turns(before, 0, (0, 10), (10, 20), (20, -6))
        self.assert_turns(before, 1, (0, 10), (9, 10), (10, 12), (11, 12), (12, 16), (15, 16), (16, 20), (20, -6))
        self.assert_turns(before, 2, (0, 12), (11, 12), (12, 16), (15, 16), (16, -6))

    def test_by_powers(self):
        before = HOUSE + [power(0, 3, 100, 10, 20), power(0, 3, 99, 0, 0), power(0, 4, 100, 0, 0), power(0, 3, 150, 30, 31)]
        self.assert_turns(before, 0, (0, 10), (9, 10), (10, 20), (19, 20), (20, 30), (29, 30), (30, 31), (31, -6))

    def test_by_powers_that_overlap(self):
        before = HOUSE + [power(0, 3, 100, 10, 20), power(0, 3, 100, 15, 30), power(0, 3, 100, 30, 40)]
        self.assert_turns(before, 0, (10, 40), (19, 40), (20, 40), (30, 40), (39, 40), (40, -6))

    def test_by_delegations(self):
        before = OWN + [hand(0, 1, 3, 100, 0, 10, 20), hand(0, 1, 3, 99, 0, 0, 0), hand(0, 1, 3, 100, 1, 30, 0)]
        self.assert_turns(before, 1, (0, 10), (9, 10), (10, 20), (19, 20), (20, 30), (29, 30), (30, -6))

    def test_by_a_change_of_the_way(self):
        # On day 20 the first way ends, and another one begins that day: nothing turns.
        before = OWN + [hand(0, 1, 3, 100, 0, 10, 20), hand(0, 1, 3, 100, 0, 20, 30)]
        self.assert_turns(before, 1, (10, 30), (19, 30), (20, 30), (30, -6))

    def test_by_what_the_delegation_goes_back_to(self):
        before = HOUSE + [power(0, 3, 100, 10, 20), hand(0, 1, 3, 100, 0, 0, 0)]
        self.assert_turns(before, 1, (0, 10), (10, 20), (20, -6))

    def test_by_ends(self):
        before = OWN + [hand(0, 1, 3, 100, 0, 10, 20), ends(0, 15)]
        self.assert_turns(before, 1, (0, 10), (10, 15), (14, 15), (15, -6))
        self.assert_turns(before + [ends(0, 25)], 1, (10, 25), (19, 25), (20, 25), (24, 25), (25, -6))
        without_end = OWN + [hand(0, 1, 3, 100, 0, 10, 0)]
        self.assert_turns(without_end, 1, (10, -6))
        self.assert_turns(without_end + [ends(0, 99999)], 1, (10, 99999), (99998, 99999), (99999, -6))

    def test_the_day_itself_is_not_later(self):
        before = HOUSE + [power(0, 3, 100, 10, 11)]
        self.assert_turns(before, 0, (9, 10), (10, 11), (11, -6))

    def test_days_on_which_something_else_begins_or_ends(self):
        before = OWN + [away(1, 5, 6), power(1, 3, 100, 7, 8), hand(0, 1, 2, 100, 1, 9, 10), away(0, 50, 0)]
        self.assert_turns(before, 0, (0, 50), (7, 50), (49, 50), (50, -6))

    def test_a_day_before_all_that_is_told(self):
        before = [begins(1), office(), power(0, 3, 100, 80, 90), term(0, 0, 85, 88)]
        self.assert_turns(before, 0, (0, 85), (79, 85), (80, 85), (85, 88), (88, -6))

    def test_the_last_days(self):
        before = HOUSE + [power(0, 3, 100, 99998, 99999)]
        self.assert_turns(before, 0, (0, 99998), (99997, 99998), (99998, 99999), (99999, -6), (100000, -6))
        self.assert_turns(HOUSE + [power(0, 3, 100, 99999, 0)], 0, (0, 99999), (99999, -6), (GREATEST, -6))

    def test_from_day_0_on(self):
        self.assert_turns(HOUSE + [power(0, 3, 100, 0, 1)], 0, (0, 1), (1, -6))
        self.assert_turns(HOUSE + [power(0, 3, 100, 1, 0)], 0, (0, 1), (1, -6))

    def test_another_kind_and_another_amount(self):
        before = HOUSE + [power(0, 3, 100, 10, 20), power(0, 4, 100, 30, 40), power(0, 3, 50, 50, 60)]
        for kind, amount, day, answer in (
            (3, 100, 0, 10), (3, 101, 0, -6), (3, 50, 20, 50), (3, 51, 20, -6), (4, 100, 0, 30), (5, 0, 0, -6),
        ):
            self.assert_asked(before, turns(0, kind, amount, day), answer)

    def test_day_by_day(self):
        before = [begins(2), office(1), office(0), term(0, 0, 3, 17), term(1, 1, 5, 9), away(0, 6, 8), away(1, 10, 12)]
        before += [power(0, 3, 100, 2, 19), hand(0, 1, 3, 100, 0, 4, 15)]
        for person in range(2):
            now = [self.may_on(before, person, day) for day in range(25)]
            for day in range(25):
                later = [other for other in range(day + 1, 25) if now[other] != now[day]]
                self.assert_asked(before, turns(person, 3, 100, day), later[0] if later else -6)

    def may_on(self, before, person, day):
        return told_last(*before, may(person, 3, 100, day))[0]

    def test_no_such_person(self):
        self.assert_asked(OWN, turns(3, 3, 100, 0), -6)
        for person in (4, 5, GREATEST):
            self.assert_refused(OWN, turns(person, 3, 100, 0), -2)
        self.assert_refused([], turns(0, 3, 100, 0), -2)

    def test_kinds(self):
        for kind in range(10):
            self.assert_asked(HOUSE + [power(0, kind, 100, 5, 0)], turns(0, kind, 100, 0), 5)
        for kind in (10, GREATEST):
            self.assert_refused(OWN, turns(0, kind, 100, 0), -1)

    def test_amounts(self):
        self.assert_asked(HOUSE + [power(0, 3, 1000000000, 5, 0)], turns(0, 3, 1000000000, 0), 5)
        for amount in (1000000001, GREATEST):
            self.assert_refused(OWN, turns(0, 3, amount, 0), -1)

    def test_the_refusal_told_first_counts(self):
        for call in (turns(4, 10, 0, 0), turns(4, 0, 1000000001, 0), turns(GREATEST, GREATEST, GREATEST, GREATEST)):
            self.assert_refused(OWN, call, -2)
