from tests.helper import GREATEST, CallTest, away, begins, ends, hand, may, most, office, power, signs, term

HOUSE = [begins(5)] + [office()] * 4 + [term(number, number, 0, 0) for number in range(4)]


class MostTest(CallTest):
    def test_the_limit_of_an_own_power(self):
        for amount in (0, 1, 500, 1000000000):
            self.assert_asked(HOUSE + [power(0, 3, amount, 0, 0)], most(0, 3, 5), amount)

    def test_the_greatest_of_several_own_powers(self):
        before = HOUSE + [power(0, 3, 50, 0, 0), power(0, 3, 70, 0, 0), power(0, 3, 60, 0, 0)]
        self.assert_asked(before, most(0, 3, 5), 70)

    def test_not_even_0(self):
        before = HOUSE + [power(1, 3, 50, 0, 0)]
        self.assert_asked(before, most(0, 3, 5), -6)
        self.assert_asked(before, most(4, 3, 5), -6)
        self.assert_asked(HOUSE, most(0, 3, 5), -6)
        self.assert_asked([begins(1)], most(0, 3, 5), -6)

    def test_0_is_not_nothing(self):
        self.assert_asked(HOUSE + [power(0, 3, 50, 0, 0), hand(0, 1, 3, 0, 0, 0, 0)], most(1, 3, 5), 0)
        self.assert_asked(HOUSE + [power(0, 3, 0, 0, 0), hand(0, 1, 3, 50, 0, 0, 0)], most(1, 3, 5), 0)

    def test_another_kind(self):
        before = HOUSE + [power(0, 3, 50, 0, 0), power(0, 4, 90, 0, 0), hand(0, 1, 3, 20, 0, 0, 0)]
        for person, kind, answer in ((0, 3, 50), (0, 4, 90), (0, 2, -6), (1, 3, 20), (1, 4, -6)):
            self.assert_asked(before, most(person, kind, 5), answer)

    def test_the_least_limit_on_the_way(self):
        for own, one, two, three in ((40, 90, 80, 70), (90, 40, 80, 70), (90, 80, 40, 70), (90, 80, 70, 40)):
            before = HOUSE + [power(0, 3, own, 0, 0), hand(0, 1, 3, one, 1, 0, 0), hand(1, 2, 3, two, 1, 0, 0)]
            before += [hand(2, 3, 3, three, 0, 0, 0)]
            self.assert_asked(before, most(3, 3, 5), 40)
            self.assert_asked(before, most(2, 3, 5), min(own, one, two))
            self.assert_asked(before, most(1, 3, 5), min(own, one))
            self.assert_asked(before, most(0, 3, 5), own)

    def test_the_best_of_several_ways(self):
        before = HOUSE + [power(0, 3, 90, 0, 0), hand(0, 1, 3, 30, 1, 0, 0), hand(1, 3, 3, 80, 0, 0, 0)]
        before += [hand(0, 2, 3, 60, 1, 0, 0), hand(2, 3, 3, 50, 0, 0, 0)]
        self.assert_asked(before, most(3, 3, 5), 50)

    def test_the_own_power_beside_a_delegation(self):
        before = HOUSE + [power(0, 3, 90, 0, 0), power(1, 3, 20, 0, 0), hand(0, 1, 3, 60, 1, 0, 0)]
        self.assert_asked(before, most(1, 3, 5), 60)
        self.assert_asked(before + [power(1, 3, 70, 0, 0)], most(1, 3, 5), 70)

    def test_a_delegation_that_is_not_further_on_the_way(self):
        before = HOUSE + [power(0, 3, 90, 0, 0), hand(0, 1, 3, 60, 0, 0, 0), hand(0, 1, 3, 10, 1, 0, 0)]
        before += [hand(1, 2, 3, 50, 0, 0, 0)]
        self.assert_asked(before, most(1, 3, 5), 60)
        self.assert_asked(before, most(2, 3, 5), 10)

    def test_a_ring(self):
        ring = [hand(0, 1, 3, 60, 1, 0, 0), hand(1, 0, 3, 70, 1, 0, 0)]
        self.assert_asked(HOUSE + ring, most(0, 3, 5), -6)
        self.assert_asked(HOUSE + ring + [power(0, 3, 50, 0, 0)], most(0, 3, 5), 50)
        self.assert_asked(HOUSE + ring + [power(0, 3, 90, 0, 0)], most(1, 3, 5), 60)

    def test_the_best_of_several_offices(self):
        before = [begins(2), office(), office(0), office(0), term(0, 1, 0, 0)]
        before += [power(0, 3, 90, 0, 0), power(1, 3, 40, 0, 0), power(2, 3, 30, 0, 0)]
        self.assert_asked(before, most(0, 3, 5), 40)
        self.assert_asked(before, most(1, 3, 5), 90)

    def test_on_which_day(self):
        before = HOUSE + [power(0, 3, 90, 10, 20), power(0, 3, 30, 15, 0), away(0, 30, 40)]
        for day, answer in ((9, -6), (10, 90), (19, 90), (20, 30), (29, 30), (30, -6), (39, -6), (40, 30), (GREATEST, 30)):
            self.assert_asked(before, most(0, 3, day), answer)

    def test_delegations_by_days(self):
        before = HOUSE + [power(0, 3, 90, 0, 0), hand(0, 1, 3, 50, 0, 10, 0), hand(0, 1, 3, 20, 0, 5, 0), ends(0, 12)]
        for day, answer in ((4, -6), (5, 20), (9, 20), (10, 50), (11, 50), (12, 20), (GREATEST, 20)):
            self.assert_asked(before, most(1, 3, day), answer)

    def test_as_the_deputy(self):
        before = [begins(3), office(1), term(0, 0, 0, 0), power(0, 3, 90, 0, 0), away(0, 5, 6)]
        for day, answers in ((4, (90, -6, -6)), (5, (-6, 90, -6)), (6, (90, -6, -6))):
            for person in range(3):
                self.assert_asked(before, most(person, 3, day), answers[person])

    def test_signatures_are_not_asked_for(self):
        self.assert_asked(HOUSE + [power(0, 3, 90, 0, 0), signs(3, 0, 8)], most(0, 3, 5), 90)

    def test_that_much_and_no_more(self):
        before = HOUSE + [power(0, 3, 90, 0, 0), hand(0, 1, 3, 60, 1, 0, 0), hand(1, 2, 3, 70, 1, 0, 0)]
        self.assert_asked(before, most(2, 3, 5), 60)
        self.assert_asked(before, may(2, 3, 60, 5), 1, 2, 1, 0)
        self.assert_asked(before, may(2, 3, 61, 5), 0)

    def test_no_such_person(self):
        self.assert_asked(HOUSE, most(4, 3, 5), -6)
        for person in (5, 6, GREATEST):
            self.assert_refused(HOUSE, most(person, 3, 5), -2)
        self.assert_refused([], most(0, 3, 5), -2)

    def test_kinds(self):
        for kind in range(10):
            self.assert_asked(HOUSE + [power(0, kind, 50, 0, 0)], most(0, kind, 5), 50)
        for kind in (10, GREATEST):
            self.assert_refused(HOUSE + [power(0, 3, 50, 0, 0)], most(0, kind, 5), -1)

    def test_the_refusal_told_first_counts(self):
        self.assert_refused(HOUSE, most(5, 10, 5), -2)
        self.assert_refused(HOUSE, most(GREATEST, GREATEST, GREATEST), -2)
        # Person 4 may not even 0, but the kind is looked at first.
        self.assert_refused(HOUSE, most(4, 10, 5), -1)
