from tests.helper import GREATEST, CallTest, away, begins, hand, office, power, signs, term, who

HOUSE = [begins(5), office(), office(), office(4)] + [term(0, 3, 0, 0), term(1, 1, 0, 0), term(2, 2, 0, 0)]


class WhoTest(CallTest):
    def test_nobody(self):
        self.assert_asked(HOUSE, who(0, 0, 0), 0)
        self.assert_asked([], who(0, 0, 0), 0)
        self.assert_asked([begins(8)], who(0, 0, 0), 0)

    def test_nobody_acts_for_the_office(self):
        self.assert_asked([begins(2), office(), power(0, 0, 10, 0, 0)], who(0, 10, 0), 0)

    def test_some_rising(self):
        self.assert_asked(HOUSE + [power(0, 0, 10, 0, 0)], who(0, 10, 0), 1, 3)
        self.assert_asked(HOUSE + [power(0, 0, 10, 0, 0), power(1, 0, 10, 0, 0)], who(0, 10, 0), 2, 1, 3)

    def test_all(self):
        before = [begins(8)] + [office()] * 8 + [term(number, 7 - number, 0, 0) for number in range(8)]
        before += [power(number, 5, 10, 0, 0) for number in range(8)]
        self.assert_asked(before, who(5, 10, 0), 8, 0, 1, 2, 3, 4, 5, 6, 7)

    def test_by_delegations(self):
        before = HOUSE + [power(0, 0, 10, 0, 0), hand(0, 1, 0, 9, 1, 0, 0), hand(1, 2, 0, 8, 0, 0, 0)]
        for amount, persons in ((8, [1, 2, 3]), (9, [1, 3]), (10, [3]), (11, [])):
            self.assert_asked(before, who(0, amount, 0), len(persons), *persons)

    def test_a_person_with_several_offices_is_counted_once(self):
        before = [begins(2), office(), office(1), office(1), term(0, 1, 0, 0)]
        before += [power(number, 0, 10, 0, 0) for number in range(3)]
        self.assert_asked(before, who(0, 10, 0), 1, 1)

    def test_deputies_in_the_place_of_those_away(self):
        before = HOUSE + [power(2, 0, 10, 0, 0), away(2, 5, 9)]
        for day, person in ((4, 2), (5, 4), (8, 4), (9, 2), (GREATEST, 2)):
            self.assert_asked(before, who(0, 10, day), 1, person)
        self.assert_asked(before + [away(4, 5, 9)], who(0, 10, 5), 0)

    def test_another_kind_and_a_greater_amount(self):
        before = HOUSE + [power(0, 3, 10, 0, 0)]
        for kind, amount, answer in ((3, 10, [1, 3]), (3, 11, [0]), (2, 10, [0]), (4, 0, [0])):
            self.assert_asked(before, who(kind, amount, 0), *answer)

    def test_signatures_are_not_asked_for(self):
        self.assert_asked(HOUSE + [power(0, 0, 10, 0, 0), signs(0, 0, 2)], who(0, 10, 0), 1, 3)

    def test_kinds(self):
        for kind in range(10):
            self.assert_asked(HOUSE + [power(0, kind, 10, 0, 0)], who(kind, 10, 0), 1, 3)
        for kind in (10, GREATEST):
            self.assert_refused(HOUSE, who(kind, 0, 0), -1)

    def test_amounts(self):
        self.assert_asked(HOUSE + [power(0, 0, 1000000000, 0, 0)], who(0, 1000000000, 0), 1, 3)
        for amount in (1000000001, GREATEST):
            self.assert_refused(HOUSE, who(0, amount, 0), -1)

    def test_it_is_refused_in_an_empty_house_too(self):
        self.assert_refused([], who(10, 0, 0), -1)
        self.assert_refused([], who(0, 1000000001, 0), -1)
