from tests.helper import GREATEST, CallTest, away, begins, hand, office, power, signs, stops, term, told_last, who


def house(persons, *offices):
    """Each office, told by its holder (or None) and its deputies, has a power of kind 3 up to 100."""
    calls = [begins(persons)]
    for number, (holder, *deputies) in enumerate(offices):
        calls.append(office(*deputies))
        calls.append(power(number, 3, 100, 0, 0))
        if holder is not None:
            calls.append(term(number, holder, 0, 0))
    return calls


class StopsTest(CallTest):
    def assert_stops(self, before, *persons):
        self.assert_asked(before, stops(3, 100, 5), len(persons), *persons)

    def test_none_needed_where_nobody_may(self):
        self.assert_stops([])
        self.assert_stops([begins(8)])
        self.assert_stops(house(8, [None]))
        self.assert_stops(house(3, [0]) + [away(0, 0, 0)])

    def test_none_needed_where_more_must_sign_than_may(self):
        self.assert_stops(house(4, [0], [1]) + [signs(3, 0, 3)])
        self.assert_stops(house(4, [0], [1]) + [signs(3, 0, 8)])

    def test_another_kind_and_a_greater_amount(self):
        before = house(2, [0])
        for kind, amount, answer in ((3, 100, [1, 0]), (3, 101, [0]), (2, 0, [0]), (4, 100, [0])):
            self.assert_asked(before, stops(kind, amount, 5), *answer)

    def test_one(self):
        self.assert_stops(house(3, [2]), 2)

    def test_the_first_of_several_who_would_do(self):
        self.assert_stops(house(4, [3], [1], [2]) + [signs(3, 0, 3)], 1)

    def test_several(self):
        self.assert_stops(house(5, [4], [1], [3]), 1, 3, 4)
        self.assert_stops(house(5, [4], [1], [3]) + [signs(3, 0, 2)], 1, 3)

    def test_all_eight(self):
        before = house(8, *[[7 - number] for number in range(8)])
        for needed in range(1, 9):
            self.assert_stops(before + [signs(3, 0, needed)], *range(9 - needed))

    def test_a_deputy_steps_in(self):
        self.assert_stops(house(3, [0, 2]), 0, 2)
        self.assert_stops(house(4, [0, 2, 3, 1]), 0, 1, 2, 3)

    def test_a_deputy_who_is_not_reached_does_not_matter(self):
        self.assert_stops(house(4, [0, 1], [2, 1]) + [signs(3, 0, 2)], 0, 1)
        self.assert_stops(house(3, [0, 1], [1]) + [signs(3, 0, 2)], 0)

    def test_a_deputy_who_decides_already_counts_once(self):
        # With 0 away, 1 acts for both offices; with 1 away, 2 steps in for 1, and two still decide.
        self.assert_stops(house(3, [0, 1], [1, 2]) + [signs(3, 0, 2)], 0)
        self.assert_stops(house(3, [1, 2], [2, 0]) + [signs(3, 0, 2)], 1)

    def test_with_one_away_more_may_decide(self):
        # As it is 0 acts for all three offices; without 0 there are three who decide.
        self.assert_stops(house(4, [0, 1], [0, 2], [0, 3]) + [signs(3, 0, 2)])
        self.assert_stops(house(4, [0, 1], [0, 2], [0, 3]), 0, 1, 2, 3)

    def test_one_more_away_brings_back_what_one_had_stopped(self):
        # Both 0 and 1 decide. 0 alone stops it; with 1 away alone, 2 and 3 step in.
        before = house(4, [0, 1], [1, 2], [1, 3]) + [signs(3, 0, 2)]
        self.assert_stops(before, 0)
        self.assertEqual(self.persons_after(before, 0), [1, 1])
        self.assertEqual(self.persons_after(before, 0, 1), [2, 2, 3])

    def persons_after(self, before, *gone):
        return told_last(*before, *[away(person, 0, 0) for person in gone], who(3, 100, 5))

    def test_of_several_sets_the_first_in_order(self):
        # {0, 3} and {1, 2} would both do: the least in which they differ is 0.
        before = house(4, [0, 3], [1, 2]) + [signs(3, 0, 2)]
        self.assert_stops(before, 0, 3)
        before = house(4, [1, 2], [0, 3]) + [signs(3, 0, 2)]
        self.assert_stops(before, 0, 3)
        # {0, 2} before {0, 3}, and these before {1, 2}.
        self.assert_stops(house(4, [2], [0], [3]) + [signs(3, 0, 2)], 0, 2)

    def test_fewer_go_ahead_of_those_first_in_order(self):
        self.assert_stops(house(4, [0, 1], [3]) + [signs(3, 0, 2)], 3)

    def test_those_away_already_are_not_told(self):
        self.assert_stops(house(4, [0, 1, 2]) + [away(0, 0, 0)], 1, 2)
        self.assert_stops(house(4, [0, 1, 2]) + [away(1, 0, 0)], 0, 2)

    def test_on_which_day(self):
        before = house(3, [0, 1, 2]) + [away(0, 10, 20)]
        for day, persons in ((9, [0, 1, 2]), (10, [1, 2]), (19, [1, 2]), (20, [0, 1, 2]), (GREATEST, [0, 1, 2])):
            self.assert_asked(before, stops(3, 100, day), len(persons), *persons)

    def test_a_person_with_several_offices(self):
        self.assert_stops(house(2, [1], [1], [1]), 1)
        self.assert_stops(house(2, [1], [1], [1]) + [signs(3, 0, 2)])

    def test_by_delegations(self):
        before = [begins(3), office(), office(), office(), term(0, 0, 0, 0), term(1, 1, 0, 0), term(2, 2, 0, 0)]
        before += [power(0, 3, 100, 0, 0), hand(0, 1, 3, 90, 1, 0, 0), hand(1, 2, 3, 80, 0, 0, 0)]
        for amount, persons in ((100, [0]), (90, [0, 1]), (80, [0, 1, 2])):
            self.assert_asked(before, stops(3, amount, 5), len(persons), *persons)

    def test_an_absence_does_not_take_the_power_from_whom_it_was_delegated_to(self):
        before = [begins(2), office(), office(), term(0, 0, 0, 0), term(1, 1, 0, 0)]
        before += [power(0, 3, 100, 0, 0), hand(0, 1, 3, 100, 0, 0, 0)]
        self.assert_stops(before, 0, 1)

    def test_from_which_amount_on_how_many(self):
        before = house(3, [0], [1], [2]) + [signs(3, 50, 2), signs(3, 60, 3)]
        for amount, persons in ((49, [0, 1, 2]), (50, [0, 1]), (59, [0, 1]), (60, [0]), (100, [0])):
            self.assert_asked(before, stops(3, amount, 5), len(persons), *persons)

    def test_nobody_stays_away_for_the_calls_behind_it(self):
        before = house(3, [0], [1])
        self.assert_asked(before + [stops(3, 100, 5)], who(3, 100, 5), 2, 0, 1)

    def test_kinds(self):
        for kind in range(10):
            self.assert_asked(house(2, [1]) + [power(0, kind, 5, 0, 0)], stops(kind, 5, 5), 1, 1)
        for kind in (10, GREATEST):
            self.assert_refused(house(2, [1]), stops(kind, 5, 5), -1)

    def test_amounts(self):
        self.assert_asked(house(2, [1]), stops(3, 1000000000, 5), 0)
        for amount in (1000000001, GREATEST):
            self.assert_refused(house(2, [1]), stops(3, amount, 5), -1)

    def test_it_is_refused_in_an_empty_house_too(self):
        self.assert_refused([], stops(10, 0, 0), -1)
        self.assert_refused([], stops(0, 1000000001, 0), -1)
