"""Calls 6 and 7: plan and release."""

import unittest

from helper import ask, change, form, last, plan, release, short, show, sleeper

AGE = form("numbers age 10 100\ncosts 0 1 5 9\nsecret ill a b c\n")
TWO = form("numbers age 10\ncosts 0 2 7\nwords town\nword x\nword y\ncosts 1 4\nsecret ill a b\n")
FREE = form("numbers one 10\ncosts 0 0 0\nnumbers two 10\ncosts 0 0 0\nsecret ill a b\n")
FAR = 10 ** 18


def ages(*cells):
    return [sleeper(w, w % 3, cell) for w, cell in enumerate(cells)]


def pairs(*cells):
    return [sleeper(w, w % 2, *pair) for w, pair in enumerate(cells)]


class Plan(unittest.TestCase):
    def test_least_cost(self):
        self.assertEqual(last(AGE, *ages(11, 12, 25, 26), plan(2, 2, 0, 1)), [0, 1, 1, 1, 2, 2, 4, 0])
        self.assertEqual(last(AGE, *ages(11, 11, 25, 25), plan(2, 2, 0, 1)), [0, 1, 0, 0, 2, 2, 4, 0])
        self.assertEqual(last(AGE, *ages(11, 22, 33, 44), plan(2, 2, 0, 1)), [0, 1, 5, 2, 2, 2, 4, 0])
        self.assertEqual(last(AGE, *ages(11, 122, 233, 344), plan(2, 2, 0, 1)), [0, 1, 9, 3, 2, 2, 4, 0])

    def test_unlike_secrets_are_asked_for_too(self):
        same = [sleeper(0, 1, 11), sleeper(1, 1, 11), sleeper(2, 2, 12)]
        self.assertEqual(last(AGE, *same, plan(2, 1, 0, 1)), [0, 1, 1, 1, 2, 1, 3, 0])
        self.assertEqual(last(AGE, *same, plan(2, 1, 1, 1)), [0, 1, 0, 0, 2, 1, 2, 1])
        self.assertEqual(last(AGE, *same, plan(2, 2, 1, 1)), [0, 1, 1, 1, 2, 2, 3, 0])
        self.assertEqual(last(AGE, *same, plan(2, 3, 1, 1)), [0, 0])

    def test_none(self):
        self.assertEqual(last(AGE, plan(1, 1, 40, 1)), [0, 0])
        self.assertEqual(last(AGE, release(1, 1, 40, 1)), [-8])
        for call in (plan(5, 1, 40, 1), plan(1, 4, 40, 1), plan(40, 12, 40, 1)):
            self.assertEqual(last(AGE, *ages(11, 11, 11, 11), call), [0, 0])
        for call in (release(5, 1, 40, 1), release(1, 4, 40, 1), release(40, 12, 40, 1)):
            self.assertEqual(last(AGE, *ages(11, 11, 11, 11), call), [-8])

    def test_a_refused_release_does_not_go_out(self):
        rows = ages(11, 11, 11, 11)
        self.assertEqual(ask(AGE, *rows, release(5, 1, 40, 1), change(0, 0, 12))[-2:], [[-8], [0]])
        refused = [release(5, 1, 40, 1)] * 6
        self.assertEqual(last(AGE, *rows, *refused, release(4, 1, 0, 1)), [0, 0, 0, 4, 1, 4, 0])

    def test_a_plan_does_not_go_out(self):
        rows = ages(11, 11, 11, 11)
        self.assertEqual(ask(AGE, *rows, *[plan(2, 1, 0, 1)] * 5, change(0, 0, 12))[-2:],
                         [[0, 1, 0, 0, 2, 1, 4, 0], [0]])

    def test_most_that_may_be_left_out(self):
        rows = ages(11, 12, 13, 14, 35, 36, 57)
        self.assertEqual(last(AGE, *rows, plan(2, 2, 0, 1)), [0, 1, 5, 2, 2, 2, 7, 0])
        self.assertEqual(last(AGE, *rows, plan(2, 2, 1, 1)), [0, 1, 1, 1, 2, 2, 6, 1])
        self.assertEqual(last(AGE, *rows, plan(3, 2, 2, 1)), [0, 1, 5, 2, 3, 2, 7, 0])
        self.assertEqual(last(AGE, *rows, plan(3, 2, 3, 1)), [0, 1, 1, 1, 3, 2, 4, 3])

    def test_columns_not_asked_for_are_at_their_last_level(self):
        rows = pairs((11, 0), (11, 0), (12, 1), (12, 1))
        self.assertEqual(last(TWO, *rows, plan(2, 2, 0, 1, 1)), [0, 1, 1, 0, 0, 2, 2, 4, 0])
        self.assertEqual(last(TWO, *rows, plan(2, 2, 0, 1, 0)), [0, 1, 4, 0, 1, 2, 2, 4, 0])
        self.assertEqual(last(TWO, *rows, plan(2, 2, 0, 0, 1)), [0, 1, 8, 2, 0, 2, 2, 4, 0])
        self.assertEqual(last(TWO, *rows, plan(2, 2, 0, 0, 0)), [0, 1, 11, 2, 1, 2, 2, 4, 0])

    def test_cost_counts_ahead_of_how_many_are_left_out(self):
        rows = pairs((11, 0), (11, 0), (12, 1))
        self.assertEqual(last(TWO, *rows, plan(2, 2, 1, 1, 1)), [0, 1, 1, 0, 0, 2, 2, 2, 1])
        self.assertEqual(last(TWO, *rows, plan(2, 2, 0, 1, 1)), [0, 1, 6, 1, 1, 2, 2, 3, 0])

    def test_fewest_left_out_of_the_same_cost(self):
        rows = pairs((11, 11), (11, 11), (12, 11), (13, 21))
        self.assertEqual(last(FREE, *rows, plan(2, 2, 4, 1, 1)), [0, 1, 0, 1, 2, 2, 2, 4, 0])
        rows = pairs((11, 11), (11, 11), (12, 12), (12, 22), (12, 22))
        self.assertEqual(last(FREE, *rows, plan(2, 2, 4, 1, 0)), [0, 1, 0, 0, 2, 2, 2, 5, 0])

    def test_least_levels_of_the_same_cost_and_as_many_left_out(self):
        rows = pairs((11, 11), (11, 11), (11, 11))
        self.assertEqual(last(FREE, *rows, plan(2, 2, 0, 1, 1)), [0, 1, 0, 0, 0, 2, 2, 3, 0])
        rows = pairs((11, 11), (12, 12), (11, 12), (12, 11))
        self.assertEqual(last(FREE, *rows, plan(4, 2, 0, 1, 1)), [0, 1, 0, 1, 1, 4, 2, 4, 0])
        rows = [sleeper(0, 0, 11, 11), sleeper(1, 1, 11, 12), sleeper(2, 0, 12, 12), sleeper(3, 1, 12, 11)]
        self.assertEqual(last(FREE, *rows, plan(2, 2, 0, 1, 1)), [0, 1, 0, 0, 1, 2, 2, 4, 0])

    def test_levels_are_compared_from_the_first_column_on(self):
        even = form("numbers one\ncosts 0 5\nnumbers two\ncosts 0 5\nsecret ill a b\n")
        rows = [sleeper(0, 0, 1, 1), sleeper(1, 1, 1, 2), sleeper(2, 0, 2, 2), sleeper(3, 1, 2, 1)]
        self.assertEqual(last(even, *rows, plan(2, 2, 0, 1, 1)), [0, 1, 5, 0, 1, 2, 2, 4, 0])

    def test_costs_of_all_columns_are_summed(self):
        four = form("".join(f"numbers {name}\ncosts {cost} {cost}000\n" for name, cost in zip("abcd", (1, 2, 3, 4)))
                    + "secret ill x y\n")
        rows = [sleeper(0, 0, 1, 1, 1, 1), sleeper(1, 1, 1, 2, 1, 2)]
        self.assertEqual(last(four, *rows, plan(2, 1, 0, 1, 1, 1, 1)), [0, 1, 6004, 0, 1, 0, 1, 2, 1, 2, 0])

    def test_numbers_at_and_beyond_their_bounds(self):
        rows = ages(11, 11, 11)
        for k, u, m in ((1, 1, 0), (3, 3, 40)):
            self.assertEqual(last(AGE, *rows, plan(k, u, m, 1)), [0, 1, 0, 0, k, u, 3, 0])
            self.assertEqual(last(AGE, *rows, release(k, u, m, 1)), [0, 0, 0, k, u, 3, 0])
        self.assertEqual(last(AGE, *rows, plan(40, 12, 40, 1)), [0, 0])
        for numbers in ((0, 1, 0), (41, 1, 0), (1, 0, 0), (1, 13, 0), (1, 1, -1), (1, 1, 41), (FAR, 1, 0), (1, -FAR, 0),
                        (1, 1, FAR)):
            self.assertEqual(ask(AGE, *rows, plan(*numbers, 1), release(*numbers, 1), change(0, 0, 5))[-3:],
                             [[-1], [-1], [0]])
        for columns in ((), (2,), (-1,), (1, 1), (FAR,), (0, 0), (1,) * 10):
            self.assertEqual(ask(AGE, *rows, plan(1, 1, 0, *columns), release(1, 1, 0, *columns), change(0, 0, 5))[-3:],
                             [[-1], [-1], [0]])
        for columns in ((1, 2), (2, 1), (0, -1), (-1, 0), (1,), (1, 1, 1)):
            self.assertEqual(ask(TWO, sleeper(0, 0, 5, 1), plan(1, 1, 0, *columns), release(1, 1, 0, *columns))[-2:],
                             [[-1], [-1]])
        self.assertEqual(ask(plan(0, 0, 0), release(0, 0, 0)), [[-9], [-9]])


class SafeTogether(unittest.TestCase):
    def setUp(self):
        text = "numbers one\ncosts 0 5\nnumbers two\ncosts 0 7\nsecret ill a b c d\n"
        self.square = [form(text)] + [sleeper(w, w, w // 2, w % 2) for w in range(4)]

    def test_alone_it_might_go_out_but_not_together(self):
        self.assertEqual(last(*self.square, plan(2, 1, 0, 0, 1)), [0, 1, 5, 1, 0, 2, 1, 4, 0])
        out = self.square + [release(2, 1, 0, 1, 0)]
        self.assertEqual(last(*out), [0, 7, 0, 1, 2, 1, 4, 0])
        self.assertEqual(last(*out, plan(2, 1, 0, 0, 1)), [0, 1, 12, 1, 1, 2, 1, 4, 0])
        self.assertEqual(last(*out, release(2, 1, 0, 0, 1)), [0, 12, 1, 1, 2, 1, 4, 0])
        self.assertEqual(last(*out, short(2, 1, 1, 0)), [0, 0])

    def test_the_same_again_is_safe(self):
        again = self.square + [release(2, 1, 0, 1, 0)] * 2
        self.assertEqual(ask(*again)[-2:], [[0, 7, 0, 1, 2, 1, 4, 0]] * 2)

    def test_all_that_went_out_counts_not_the_last_alone(self):
        out = self.square + [release(2, 1, 0, 1, 0), release(2, 1, 0, 0, 0)]
        self.assertEqual(last(*out, plan(2, 1, 0, 0, 1)), [0, 1, 12, 1, 1, 2, 1, 4, 0])
        self.assertEqual(last(*self.square, release(2, 1, 0, 0, 0), release(2, 1, 0, 1, 0), plan(2, 1, 0, 0, 1)),
                         [0, 1, 12, 1, 1, 2, 1, 4, 0])

    def test_the_greatest_k_is_an_earlier_one(self):
        out = self.square + [release(2, 1, 0, 1, 0)]
        self.assertEqual(last(*out, plan(1, 1, 0, 0, 1)), [0, 1, 12, 1, 1, 1, 1, 4, 0])
        self.assertEqual(last(*self.square, release(1, 1, 0, 1, 0), plan(1, 1, 0, 0, 1)),
                         [0, 1, 5, 1, 0, 1, 1, 4, 0])

    def test_the_greatest_k_is_the_new_one(self):
        out = self.square + [release(1, 1, 0, 1, 0)]
        self.assertEqual(last(*out), [0, 7, 0, 1, 1, 1, 4, 0])
        self.assertEqual(last(*out, plan(2, 1, 0, 0, 1)), [0, 1, 12, 1, 1, 2, 1, 4, 0])
        self.assertEqual(last(*out, plan(3, 1, 0, 0, 1)), [0, 0])
        self.assertEqual(last(*out, release(3, 1, 40, 1, 1)), [-8])

    def test_the_greatest_u_is_an_earlier_or_the_new_one(self):
        text = "numbers one\ncosts 0 5\nnumbers two\ncosts 0 7\nsecret ill a b\n"
        rows = [sleeper(w, s, w // 4, w // 2 % 2) for w, s in enumerate((0, 0, 1, 1, 0, 0, 1, 1))]
        begun = [form(text)] + rows
        self.assertEqual(last(*begun, release(2, 2, 0, 1, 0), plan(2, 1, 0, 0, 1)), [0, 1, 12, 1, 1, 2, 1, 8, 0])
        self.assertEqual(last(*begun, release(2, 1, 0, 0, 1), plan(2, 2, 0, 1, 0)), [0, 0])
        self.assertEqual(last(*begun, release(2, 1, 0, 1, 0), plan(2, 1, 0, 0, 1)), [0, 1, 5, 1, 0, 2, 1, 8, 0])

    def test_k_and_u_of_a_release_that_does_not_have_the_row_do_not_count(self):
        rows = ages(11, 11, 11, 50)
        out = [AGE, *rows, release(3, 3, 1, 1)]
        self.assertEqual(last(*out), [0, 0, 0, 3, 3, 3, 1])
        self.assertEqual(last(*out, plan(1, 1, 0, 1)), [0, 1, 0, 0, 1, 1, 4, 0])

    def test_an_earlier_release_hides_only_among_those_that_it_has(self):
        text = "numbers one\ncosts 0 5\nnumbers two\ncosts 0 7\nsecret ill a b\n"
        rows = [sleeper(0, 0, 1, 1), sleeper(1, 1, 1, 1), sleeper(2, 0, 2, 1)]
        out = [form(text), *rows, release(2, 2, 1, 1, 0)]
        self.assertEqual(last(*out), [0, 7, 0, 1, 2, 2, 2, 1])
        self.assertEqual(last(*out, plan(2, 2, 0, 0, 1)), [0, 1, 5, 1, 0, 2, 2, 3, 0])
        self.assertEqual(last(*out, plan(3, 2, 0, 0, 1)), [0, 0])
        self.assertEqual(last(*out, plan(3, 2, 40, 1, 1)), [0, 0])
        self.assertEqual(last(form(text), *rows, plan(3, 2, 0, 0, 1)), [0, 1, 5, 1, 0, 3, 2, 3, 0])

    def test_sleepers_that_came_after_a_release(self):
        out = [AGE, *ages(11, 12), release(2, 2, 0, 1), sleeper(7, 2, 13)]
        self.assertEqual(last(*out[:-1]), [0, 1, 1, 2, 2, 2, 0])
        self.assertEqual(last(*out, plan(3, 2, 0, 1)), [0, 0])
        self.assertEqual(last(*out, plan(3, 3, 40, 1)), [0, 0])
        self.assertEqual(last(*out, plan(2, 2, 0, 1)), [0, 1, 1, 1, 2, 2, 3, 0])
        self.assertEqual(last(*out, sleeper(8, 1, 13), plan(2, 2, 2, 1)), [0, 1, 0, 0, 2, 2, 2, 2])
        self.assertEqual(last(*out, sleeper(8, 1, 13), plan(2, 2, 1, 1)), [0, 1, 1, 1, 2, 2, 4, 0])

    def test_a_left_out_row_that_changed(self):
        out = [AGE, *ages(11, 11, 50), release(2, 2, 1, 1)]
        self.assertEqual(last(*out), [0, 0, 0, 2, 2, 2, 1])
        given = ask(*out, change(2, 2, 11), plan(2, 2, 0, 1), plan(3, 2, 0, 1))[-3:]
        self.assertEqual(given, [[0], [0, 1, 0, 0, 2, 2, 3, 0], [0, 0]])


class Release(unittest.TestCase):
    def test_release_leaves_rows_out(self):
        rows = ages(11, 12, 13, 14, 35, 36, 57)
        self.assertEqual(last(AGE, *rows, release(2, 2, 1, 1)), [0, 1, 1, 2, 2, 6, 1])
        changes = [change(w, 0, 0) for w in range(7)]
        self.assertEqual(ask(AGE, *rows, release(2, 2, 1, 1), *changes)[-7:], [[-5]] * 6 + [[0]])

    def test_release_is_what_plan_told(self):
        rows = pairs((11, 0), (11, 0), (12, 1), (12, 1), (30, 1))
        for numbers in ((2, 2, 0, 1, 1), (2, 2, 1, 1, 1), (2, 1, 0, 0, 1), (5, 2, 0, 1, 0)):
            told = last(TWO, *rows, plan(*numbers))
            self.assertEqual(told[:2], [0, 1])
            self.assertEqual(last(TWO, *rows, release(*numbers)), [0] + told[2:])

    def test_four_releases(self):
        four = [AGE, *ages(11, 11, 11, 11)] + [release(2, 1, 0, 1)] * 4
        self.assertEqual(ask(*four)[-4:], [[0, 0, 0, 2, 1, 4, 0]] * 4)
        self.assertEqual(last(*four, release(2, 1, 0, 1)), [-6])
        self.assertEqual(last(*four, release(5, 1, 0, 1)), [-6])
        for call in (release(41, 1, 0, 1), release(2, 13, 0, 1), release(2, 1, 41, 1), release(2, 1, 0, 2), release(2, 1, 0)):
            self.assertEqual(last(*four, call), [-1])
        self.assertEqual(ask(*four, plan(2, 1, 0, 1), plan(5, 1, 0, 1))[-2:], [[0, 1, 0, 0, 2, 1, 4, 0], [0, 0]])

    def test_rows_stay_as_they_are(self):
        before = ask(AGE, *ages(11, 12), show(0, 0), show(1, 0))[-2:]
        self.assertEqual(ask(AGE, *ages(11, 12), release(2, 2, 0, 1), show(0, 0), show(1, 0))[-2:], before)


if __name__ == "__main__":
    unittest.main()
