from tests.helper import GREATEST, CallTest, begins, house_after, signs, told

FULL = [signs(amount % 10, amount, 1) for amount in range(20)]


class SignsTest(CallTest):
    def test_so_many_must_sign(self):
        self.assertEqual(told(signs(0, 0, 1), signs(0, 100, 2), signs(9, 50, 8)), [[0], [0], [0]])
        self.assertEqual(
            [vars(row) for row in house_after(signs(4, 100, 2)).sign_rules], [{"kind": 4, "amount": 100, "many": 2}],
        )

    def test_how_many(self):
        for many in range(1, 9):
            self.assert_answer([], signs(0, 0, many), 0)
        for many in (0, 9, GREATEST):
            self.assert_refused([], signs(0, 0, many), -1)

    def test_more_than_there_are_persons(self):
        self.assert_answer([begins(1)], signs(0, 0, 8), 0)

    def test_kinds(self):
        for kind in range(10):
            self.assert_answer([], signs(kind, 0, 1), 0)
        for kind in (10, GREATEST):
            self.assert_refused([], signs(kind, 0, 1), -1)

    def test_amounts(self):
        for amount in (0, 1, 1000000000):
            self.assert_answer([], signs(0, amount, 1), 0)
        for amount in (1000000001, GREATEST):
            self.assert_refused([], signs(0, amount, 1), -1)

    def test_the_same_amount_again(self):
        self.assert_refused([signs(3, 100, 2)], signs(3, 100, 2), -3)
        self.assert_refused([signs(3, 100, 2)], signs(3, 100, 5), -3)
        self.assert_refused([signs(3, 0, 2)], signs(3, 0, 1), -3)

    def test_a_smaller_amount(self):
        self.assert_refused([signs(3, 100, 2)], signs(3, 99, 1), -3)
        self.assert_refused([signs(3, 100, 2)], signs(3, 0, 1), -3)
        self.assert_refused([signs(3, 100, 2), signs(3, 200, 3)], signs(3, 150, 1), -3)

    def test_a_greater_amount(self):
        self.assert_answer([signs(3, 100, 2)], signs(3, 101, 3), 0)
        self.assert_answer([signs(3, 100, 2)], signs(3, 1000000000, 1), 0)

    def test_another_kind(self):
        for amount in (0, 99, 100, 101):
            self.assert_answer([signs(3, 100, 2)], signs(4, amount, 2), 0)

    def test_a_kind_between(self):
        before = [signs(3, 100, 2), signs(4, 500, 2)]
        self.assert_answer(before, signs(3, 101, 2), 0)
        self.assert_refused(before, signs(3, 100, 2), -3)

    def test_a_refused_one_is_not_told(self):
        self.assertEqual(told(signs(3, 100, 2), signs(3, 200, 9), signs(3, 150, 2)), [[0], [-1], [0]])

    def test_twenty_and_one_more(self):
        self.assert_answer(FULL[:-1], FULL[-1], 0)
        for kind in range(10):
            self.assert_refused(FULL, signs(kind, 100, 1), -5)
        one_kind = [signs(0, amount, 1) for amount in range(20)]
        self.assert_answer(one_kind[:-1], one_kind[-1], 0)
        self.assert_refused(one_kind, signs(1, 0, 1), -5)

    def test_the_refusal_told_first_counts(self):
        self.assert_refused([signs(3, 100, 2)], signs(3, 100, 9), -1)
        for row in (signs(0, 100, 0), signs(0, 100, 9), signs(10, 100, 1), signs(0, 1000000001, 1), signs(0, 0, 9)):
            self.assert_refused(FULL, row, -1)
        self.assert_refused(FULL, signs(0, 10, 1), -3)
        self.assert_refused(FULL, signs(9, 0, 1), -3)
