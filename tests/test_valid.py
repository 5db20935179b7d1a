from tests.helper import GREATEST, CallTest, away, begins, hand, office, power, signs, term, valid

# Persons 0 to 3 hold an office with a power, person 4 one without.
HOUSE = [begins(6)] + [office()] * 5 + [term(number, number, 0, 0) for number in range(5)]
HOUSE += [power(number, 3, 1000, 0, 0) for number in range(4)]
TWO = HOUSE + [signs(3, 0, 2)]


class ValidTest(CallTest):
    def test_one_must_sign_if_nothing_is_told(self):
        self.assert_asked(HOUSE, valid(3, 1000, 5, 2), 1, 1, 1)
        self.assert_asked(HOUSE, valid(3, 1000, 5, 4), 0, 1, 0)

    def test_one_must_sign_where_nobody_may(self):
        self.assert_asked([], valid(3, 1000, 5), 0, 1, 0)
        self.assert_asked([begins(1)], valid(3, 1000, 5, 0), 0, 1, 0)

    def test_too_few_enough_and_more(self):
        for signers, answer in (([1], [0, 2, 1]), ([1, 3], [1, 2, 2]), ([3, 0, 1], [1, 2, 3]), ([0, 1, 2, 3], [1, 2, 4])):
            self.assert_asked(TWO, valid(3, 1000, 5, *signers), *answer)

    def test_no_persons(self):
        self.assert_asked(TWO, valid(3, 1000, 5), 0, 2, 0)
        self.assert_asked(HOUSE, valid(3, 1000, 5), 0, 1, 0)

    def test_the_same_person_several_times(self):
        self.assert_asked(TWO, valid(3, 1000, 5, 1, 1), 0, 2, 1)
        self.assert_asked(TWO, valid(3, 1000, 5, *[1] * 12), 0, 2, 1)
        self.assert_asked(TWO, valid(3, 1000, 5, 1, 2, 1), 1, 2, 2)
        self.assert_asked(TWO, valid(3, 1000, 5, *[1, 2, 0, 3] * 3), 1, 2, 4)

    def test_persons_who_may_not(self):
        self.assert_asked(TWO, valid(3, 1000, 5, 1, 4), 0, 2, 1)
        self.assert_asked(TWO, valid(3, 1000, 5, 4, 5), 0, 2, 0)
        self.assert_asked(TWO, valid(3, 1000, 5, 4, 1, 5, 0), 1, 2, 2)

    def test_a_person_with_several_offices_counts_once(self):
        before = [begins(1), office(0), office(0), power(0, 3, 10, 0, 0), power(1, 3, 10, 0, 0), signs(3, 0, 2)]
        self.assert_asked(before, valid(3, 10, 5, 0), 0, 2, 1)

    def test_persons_who_are_away(self):
        before = TWO + [away(1, 5, 9)]
        for day, answer in ((4, [1, 2, 2]), (5, [0, 2, 1]), (8, [0, 2, 1]), (9, [1, 2, 2]), (GREATEST, [1, 2, 2])):
            self.assert_asked(before, valid(3, 1000, day, 0, 1), *answer)

    def test_by_delegations(self):
        before = TWO + [hand(0, 4, 3, 500, 0, 0, 0)]
        self.assert_asked(before, valid(3, 500, 5, 0, 4), 1, 2, 2)
        self.assert_asked(before, valid(3, 501, 5, 0, 4), 0, 2, 1)

    def test_from_which_amount_on(self):
        before = HOUSE + [signs(3, 100, 2), signs(3, 200, 4), signs(3, 300, 3)]
        for amount, needed in ((0, 1), (99, 1), (100, 2), (101, 2), (199, 2), (200, 4), (299, 4), (300, 3), (1000, 3)):
            for many in range(5):
                answer = [1 if many >= needed else 0, needed, many]
                self.assert_asked(before, valid(3, amount, 5, *range(many)), *answer)

    def test_the_greatest_amount(self):
        before = [signs(3, 999999999, 2), signs(3, 1000000000, 5)]
        for amount, needed in ((999999998, 1), (999999999, 2), (1000000000, 5)):
            self.assert_asked(before, valid(3, amount, 5), 0, needed, 0)

    def test_another_kind(self):
        before = HOUSE + [signs(2, 0, 4), signs(4, 0, 5), signs(3, 100, 2), signs(2, 200, 6), signs(4, 300, 7)]
        for amount, needed in ((99, 1), (100, 2), (200, 2), (300, 2)):
            self.assert_asked(before, valid(3, amount, 5, 0, 1), 1, needed, 2)
        self.assert_asked(before, valid(5, 300, 5, 0, 1), 0, 1, 0)

    def test_more_must_sign_than_there_are(self):
        self.assert_asked(HOUSE + [signs(3, 0, 8)], valid(3, 0, 5, 0, 1, 2, 3), 0, 8, 4)

    def test_all_eight_must_sign(self):
        before = [begins(8)] + [office()] * 8 + [term(number, number, 0, 0) for number in range(8)]
        before += [power(number, 0, 10, 0, 0) for number in range(8)] + [signs(0, 10, 8)]
        self.assert_asked(before, valid(0, 10, 5, *range(8)), 1, 8, 8)
        self.assert_asked(before, valid(0, 10, 5, *range(7)), 0, 8, 7)

    def test_no_such_person(self):
        self.assert_asked(TWO, valid(3, 1000, 5, 5), 0, 2, 0)
        for signers in ([6], [0, 1, 6], [6, 0, 1], [GREATEST], [0] * 11 + [6]):
            self.assert_refused(TWO, valid(3, 1000, 5, *signers), -2)
        self.assert_refused([], valid(3, 1000, 5, 0), -2)

    def test_kinds(self):
        for kind in range(10):
            self.assert_asked(HOUSE + [power(0, kind, 5, 0, 0)], valid(kind, 5, 5, 0), 1, 1, 1)
        for kind in (10, GREATEST):
            for signers in ([], [0]):
                self.assert_refused(TWO, valid(kind, 5, 5, *signers), -1)

    def test_amounts(self):
        self.assert_asked(TWO, valid(3, 1000000000, 5, 0), 0, 2, 0)
        for amount in (1000000001, GREATEST):
            for signers in ([], [0]):
                self.assert_refused(TWO, valid(3, amount, 5, *signers), -1)

    def test_the_refusal_told_first_counts(self):
        for call in (valid(10, 0, 5, 6), valid(3, 1000000001, 5, 0, 6), valid(GREATEST, GREATEST, GREATEST, GREATEST)):
            self.assert_refused(TWO, call, -2)
