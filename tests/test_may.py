from tests.helper import GREATEST, CallTest, away, begins, ends, hand, may, office, power, signs, term

# Person p holds office p, and nobody else acts for it.
HOUSE = [begins(8)] + [office()] * 8 + [term(number, number, 0, 0) for number in range(8)]
OWN = HOUSE + [power(0, 3, 100, 0, 0)]


def passes(giver, receiver, further=1, amount=100, first=0, end=0, kind=3):
    return hand(giver, receiver, kind, amount, further, first, end)


class MayTest(CallTest):
    def assert_may(self, before, person, number, *chain):
        self.assert_asked(before, may(person, 3, 100, 50), 1, number, *chain)

    def assert_may_not(self, before, person):
        self.assert_asked(before, may(person, 3, 100, 50), 0)

    def test_by_its_own_power(self):
        self.assert_may(OWN, 0, 0)

    def test_without_any_power(self):
        self.assert_may_not(OWN, 1)
        self.assert_may_not(HOUSE, 0)

    def test_an_own_power_of_another_kind(self):
        self.assert_asked(OWN, may(0, 2, 100, 50), 0)
        self.assert_asked(OWN, may(0, 4, 100, 50), 0)

    def test_just_at_and_just_above_the_limit_of_an_own_power(self):
        for amount, answer in ((0, [1, 0]), (99, [1, 0]), (100, [1, 0]), (101, [0]), (1000000000, [0])):
            self.assert_asked(OWN, may(0, 3, amount, 50), *answer)

    def test_limits_0_and_1000000000(self):
        least = HOUSE + [power(0, 3, 0, 0, 0)]
        self.assert_asked(least, may(0, 3, 0, 50), 1, 0)
        self.assert_asked(least, may(0, 3, 1, 50), 0)
        self.assert_asked(HOUSE + [power(0, 9, 1000000000, 0, 0)], may(0, 9, 1000000000, 50), 1, 0)

    def test_any_of_several_own_powers(self):
        before = HOUSE + [power(0, 3, 10, 0, 0), power(0, 3, 100, 40, 60), power(0, 3, 50, 0, 0), power(0, 4, 200, 0, 0)]
        for amount, day, answer in ((100, 50, [1, 0]), (100, 39, [0]), (50, 39, [1, 0]), (51, 39, [0]), (101, 50, [0])):
            self.assert_asked(before, may(0, 3, amount, day), *answer)

    def test_the_first_and_the_last_day_of_an_own_power(self):
        before = HOUSE + [power(0, 3, 100, 40, 60)]
        for day, answer in ((39, [0]), (40, [1, 0]), (59, [1, 0]), (60, [0]), (GREATEST, [0])):
            self.assert_asked(before, may(0, 3, 100, day), *answer)

    def test_a_day_far_behind_all_that_is_told(self):
        for day in (99999, 100000, GREATEST):
            self.assert_asked(OWN, may(0, 3, 100, day), 1, 0)
            self.assert_asked(OWN + [passes(0, 1)], may(1, 3, 100, day), 1, 1, 0)

    def test_by_one_delegation_further_and_not(self):
        for further in (0, 1):
            self.assert_may(OWN + [passes(0, 1, further)], 1, 1, 0)

    def test_whoever_delegates_may_still(self):
        self.assert_may(OWN + [passes(0, 1)], 0, 0)

    def test_a_delegation_by_an_office_without_power(self):
        self.assert_may_not(OWN + [passes(2, 1)], 1)
        self.assert_may_not(HOUSE + [passes(0, 1)], 1)

    def test_a_delegation_goes_one_way(self):
        self.assert_may_not(HOUSE + [power(1, 3, 100, 0, 0), passes(0, 1)], 0)

    def test_an_own_power_goes_ahead_of_a_delegation(self):
        self.assert_may(OWN + [power(1, 3, 100, 0, 0), passes(0, 1)], 1, 1)

    def test_a_delegation_where_the_own_power_is_too_small(self):
        self.assert_may(OWN + [power(1, 3, 99, 0, 0), passes(0, 1)], 1, 1, 0)
        self.assert_may(OWN + [power(1, 3, 100, 51, 0), passes(0, 1)], 1, 1, 0)

    def test_by_two_and_more_delegations(self):
        before = OWN + [passes(2, 3, 0), passes(0, 1), passes(1, 2)]
        self.assert_may(before, 1, 1, 1)
        self.assert_may(before, 2, 2, 2, 1)
        self.assert_may(before, 3, 3, 0, 2, 1)

    def test_through_all_offices(self):
        before = OWN + [passes(number, number + 1) for number in range(7)]
        for number in range(8):
            self.assert_may(before, number, number, *range(number - 1, -1, -1))

    def test_through_all_offices_with_falling_numbers(self):
        before = OWN + [passes(number, number + 1) for number in range(6, -1, -1)]
        for number in range(8):
            self.assert_may(before, number, number, *range(7 - number, 7))

    def test_one_on_the_way_is_not_further(self):
        for stuck in range(7):
            before = OWN + [passes(number, number + 1, 0 if number == stuck else 1) for number in range(7)]
            for number in range(8):
                if number <= stuck + 1:
                    self.assert_may(before, number, number, *range(number - 1, -1, -1))
                else:
                    self.assert_may_not(before, number)

    def test_just_at_and_just_above_a_limit_on_the_way(self):
        for small in range(4):
            before = OWN[:-1] + [power(0, 3, 500 if small else 100, 0, 0)]
            before += [passes(number, number + 1, 1, 100 if small == number + 1 else 500) for number in range(3)]
            self.assert_asked(before, may(3, 3, 100, 50), 1, 3, 2, 1, 0)
            self.assert_asked(before, may(3, 3, 101, 50), 0)

    def test_a_delegation_of_another_kind_on_the_way(self):
        self.assert_may_not(OWN + [passes(0, 1, kind=4), passes(1, 2)], 2)
        self.assert_may_not(OWN + [passes(0, 1), passes(1, 2, kind=4)], 2)
        self.assert_may_not(HOUSE + [power(0, 4, 100, 0, 0), passes(0, 1), passes(1, 2)], 2)

    def test_delegations_out_of_force(self):
        for first, end, answer in ((0, 50, [0]), (0, 51, [1, 1, 0]), (50, 0, [1, 1, 0]), (51, 0, [0]), (50, 51, [1, 1, 0])):
            self.assert_asked(OWN + [passes(0, 1, 1, 100, first, end)], may(1, 3, 100, 50), *answer)

    def test_delegations_on_the_way_out_of_force(self):
        for first, end, answer in ((0, 50, [0]), (0, 51, [1, 2, 1, 0]), (50, 0, [1, 2, 1, 0]), (51, 0, [0])):
            self.assert_asked(OWN + [passes(0, 1, 1, 100, first, end), passes(1, 2)], may(2, 3, 100, 50), *answer)
            self.assert_asked(OWN + [passes(0, 1), passes(1, 2, 1, 100, first, end)], may(2, 3, 100, 50), *answer)

    def test_the_own_power_it_goes_back_to_is_out_of_force(self):
        self.assert_may_not(HOUSE + [power(0, 3, 100, 51, 0), passes(0, 1), passes(1, 2)], 2)
        self.assert_may_not(HOUSE + [power(0, 3, 100, 0, 50), passes(0, 1), passes(1, 2)], 2)

    def test_a_ring_without_an_own_power(self):
        ring = [passes(0, 1), passes(1, 2), passes(2, 0)]
        for person in range(3):
            self.assert_may_not(HOUSE + ring, person)
        for person in range(2):
            self.assert_may_not(HOUSE + [passes(0, 1), passes(1, 0)], person)

    def test_a_ring_with_an_own_power_in_it(self):
        before = OWN + [passes(0, 1), passes(1, 2), passes(2, 0)]
        self.assert_may(before, 0, 0)
        self.assert_may(before, 1, 1, 0)
        self.assert_may(before, 2, 2, 1, 0)

    def test_a_ring_with_an_own_power_that_leads_into_it(self):
        before = OWN + [passes(1, 2), passes(2, 3), passes(3, 1), passes(0, 2)]
        self.assert_may(before, 3, 3, 1, 3)
        self.assert_may(before, 1, 1, 2, 1, 3)

    def test_a_ring_with_a_delegation_into_it_that_is_not_further(self):
        before = OWN + [passes(1, 2), passes(2, 1), passes(0, 1, 0)]
        self.assert_may(before, 1, 1, 2)
        self.assert_may_not(before, 2)

    def test_a_ring_with_an_own_power_beside_it(self):
        before = OWN + [passes(1, 2), passes(2, 1), passes(1, 0)]
        self.assert_may_not(before, 1)
        self.assert_may_not(before, 2)
        self.assert_may(before, 0, 0)

    def test_the_first_of_several_delegations_to_the_office(self):
        before = OWN + [power(1, 3, 100, 0, 0)]
        self.assert_may(before + [passes(1, 2), passes(0, 2)], 2, 2, 0)
        self.assert_may(before + [passes(0, 2, 0), passes(1, 2), passes(0, 2)], 2, 2, 0)

    def test_the_first_of_several_delegations_by_the_same_office(self):
        self.assert_may(OWN + [passes(0, 1, 0), passes(0, 1), passes(1, 2)], 1, 1, 0)

    def test_earlier_delegations_that_do_not_lead_to_it(self):
        unfit = [
            passes(0, 1, amount=99), passes(0, 1, first=51), passes(0, 1, end=50), passes(0, 1, kind=4), passes(2, 1),
            passes(0, 3),
        ]
        self.assert_may(OWN + unfit + [passes(0, 1), passes(0, 1)], 1, 1, 6)

    def test_on_the_way_the_first_that_is_further(self):
        before = OWN + [passes(0, 1, 0), passes(0, 1), passes(0, 1), passes(1, 2)]
        self.assert_may(before, 1, 1, 0)
        self.assert_may(before, 2, 2, 3, 1)

    def test_an_earlier_round_goes_ahead_of_a_lower_number_on_the_way(self):
        before = OWN + [passes(1, 2), passes(0, 1), passes(0, 2), passes(2, 3)]
        self.assert_may(before, 3, 3, 3, 2)

    def test_an_earlier_round_goes_ahead_wherever_the_offices_stand(self):
        # Office 4 is reached in round 1 by 0, in round 2 by 7 (the lower number); 5 hangs on 4.
        before = OWN + [passes(7, 4), passes(4, 5), passes(0, 4), passes(0, 7)]
        self.assert_may(before, 5, 5, 1, 2)

    def test_within_a_round_nothing_of_the_same_round_counts(self):
        before = OWN + [passes(0, 1), passes(1, 2), passes(0, 2), passes(2, 3)]
        self.assert_may(before, 3, 3, 3, 2)

    def test_of_one_round_the_lower_number(self):
        before = OWN + [power(1, 3, 100, 0, 0), passes(1, 2), passes(0, 2), passes(2, 3)]
        self.assert_may(before, 3, 3, 2, 0)
        before = OWN + [passes(0, 1), passes(0, 2), passes(2, 3), passes(1, 3), passes(3, 4)]
        self.assert_may(before, 4, 4, 4, 2, 1)

    def test_the_first_link_goes_by_number_even_where_it_is_of_a_later_round(self):
        before = OWN + [passes(1, 2), passes(0, 1), passes(0, 2)]
        self.assert_may(before, 2, 2, 0, 1)

    def test_the_first_link_may_come_from_an_office_that_hangs_on_this_one(self):
        # Office 1 has the lowest delegation from 2, which itself may pass it on only by what 1 has from 0.
        before = OWN + [passes(2, 1), passes(0, 1), passes(1, 2)]
        self.assert_may(before, 1, 1, 0, 2, 1)
        self.assert_may(before, 2, 2, 2, 1)

    def test_the_first_of_several_offices_for_which_the_person_acts(self):
        before = [begins(2), office(), office(), office(), office()]
        before += [term(3, 0, 0, 0), term(1, 0, 0, 0), term(2, 0, 0, 0), term(0, 1, 0, 0)]
        powers = [power(3, 3, 100, 0, 0), power(2, 3, 100, 0, 0), power(0, 3, 100, 0, 0)]
        self.assert_may(before + powers, 0, 2)
        self.assert_may(before + powers + [power(1, 3, 100, 0, 0)], 0, 1)
        self.assert_may(before + powers[:1] + [passes(3, 2), passes(2, 1)], 0, 1, 1, 0)
        self.assert_may(before + powers[:1], 0, 3)

    def test_what_an_earlier_office_may_not_a_later_one_may(self):
        before = [begins(1), office(), office(), term(0, 0, 0, 0), term(1, 0, 0, 0)]
        before += [power(0, 3, 99, 0, 0), power(1, 3, 100, 0, 0)]
        self.assert_asked(before, may(0, 3, 99, 50), 1, 0)
        self.assert_asked(before, may(0, 3, 100, 50), 1, 1)

    def test_only_who_acts_may(self):
        before = [begins(3), office(1, 2), term(0, 0, 0, 60), away(0, 40, 50), power(0, 3, 100, 0, 0)]
        for day, actor in ((39, 0), (40, 1), (49, 1), (50, 0), (59, 0), (60, 1)):
            for person in range(3):
                answer = [1, 0] if person == actor else [0]
                self.assert_asked(before, may(person, 3, 100, day), *answer)

    def test_an_office_for_which_nobody_acts_still_passes_it_on(self):
        before = [begins(1), office(), office(), term(1, 0, 0, 0), power(0, 3, 100, 0, 0), passes(0, 1)]
        self.assert_may(before, 0, 1, 0)

    def test_signatures_are_not_asked_for(self):
        self.assert_may(OWN + [signs(3, 0, 8)], 0, 0)

    def test_a_delegation_that_was_ended(self):
        before = OWN + [passes(0, 1), passes(1, 2), ends(0, 50)]
        for person in (1, 2):
            self.assert_asked(before, may(person, 3, 100, 50), 0)
            self.assert_asked(before, may(person, 3, 100, GREATEST), 0)
        self.assert_asked(before, may(1, 3, 100, 49), 1, 1, 0)
        self.assert_asked(before, may(2, 3, 100, 49), 1, 2, 1, 0)

    def test_a_delegation_whose_end_was_put_off(self):
        before = OWN + [passes(0, 1, end=20), ends(0, 60)]
        self.assert_asked(before, may(1, 3, 100, 59), 1, 1, 0)
        self.assert_asked(before, may(1, 3, 100, 60), 0)

    def test_the_delegation_behind_an_ended_one(self):
        self.assert_may(OWN + [passes(0, 1), passes(0, 1), ends(0, 50)], 1, 1, 1)

    def test_no_such_person(self):
        self.assert_asked(OWN, may(7, 3, 100, 50), 0)
        for person in (8, 9, GREATEST):
            self.assert_refused(OWN, may(person, 3, 100, 50), -2)
        self.assert_refused([], may(0, 3, 100, 50), -2)

    def test_kinds(self):
        for kind in range(10):
            self.assert_asked(HOUSE + [power(0, kind, 5, 0, 0)], may(0, kind, 5, 50), 1, 0)
        for kind in (10, GREATEST):
            self.assert_refused(OWN, may(0, kind, 100, 50), -1)

    def test_amounts(self):
        self.assert_asked(OWN, may(0, 3, 1000000000, 50), 0)
        for amount in (1000000001, GREATEST):
            self.assert_refused(OWN, may(0, 3, amount, 50), -1)

    def test_the_refusal_told_first_counts(self):
        for call in (may(8, 10, 0, 0), may(8, 0, 1000000001, 0), may(GREATEST, GREATEST, GREATEST, GREATEST)):
            self.assert_refused(OWN, call, -2)
