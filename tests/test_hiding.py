"""Calls 9 to 13 and 15: releases, hidden, could, cost, next and counts."""

import unittest

from helper import (ask, change, cost, could, counts, form, hidden, last, next_plan, plan, printed, release, releases,
                    short, show, sleeper, text)

AGE = form("numbers age 10 100\ncosts 0 1 5 9\nsecret ill a b c\n")
TWO = form("numbers age 10\ncosts 0 2 7\nwords town\nword x\nword y\ncosts 1 4\nsecret ill a b\n")
SQUARE = form("numbers one\ncosts 0 5\nnumbers two\ncosts 0 7\nsecret ill a b c d\n")
WRONG = form("numbers age 10\ncosts 0 1\n")
FAR = 10 ** 18
# Four rows, no two of which look alike, but each looks like one other in the first column, and like another in the second.
CORNERS = [SQUARE] + [sleeper(w, w, w // 2, w % 2) for w in range(4)]
# Two rows for each corner.
DOUBLED = [SQUARE] + [sleeper(w, s, w // 4, w // 2 % 2) for w, s in enumerate((0, 0, 1, 1, 0, 3, 1, 1))]


def ages(*cells):
    return [sleeper(w, w % 3, cell) for w, cell in enumerate(cells)]


class Releases(unittest.TestCase):
    def test_none(self):
        self.assertEqual(last(AGE, releases()), [0, 0])
        self.assertEqual(last(AGE, *ages(11, 12), plan(1, 1, 0, 1), release(3, 1, 0, 1), releases()), [0, 0])

    def test_one(self):
        self.assertEqual(last(AGE, *ages(11, 12, 57), release(2, 1, 1, 1), releases()), [0, 1, 1, 2, 1, 2, 1])
        self.assertEqual(last(*CORNERS, release(2, 1, 0, 1, 0), releases()), [0, 1, 0, 1, 2, 1, 4, 0])

    def test_four_in_the_order_in_which_they_went_out(self):
        four = [release(2, 2, 0, 1), release(3, 2, 0, 1), release(4, 3, 0, 0), release(1, 1, 0, 1)]
        given = ask(AGE, *ages(11, 12, 13, 14), *four, releases(), release(1, 1, 0, 1), releases())
        told = [1, 2, 2, 4, 0] + [1, 3, 2, 4, 0] + [3, 4, 3, 4, 0] + [1, 1, 1, 4, 0]
        self.assertEqual(given[-3:], [[0, 4] + told, [-6], [0, 4] + told])

    def test_told_as_they_went_out(self):
        out = [AGE, *ages(11, 11, 50), release(2, 2, 1, 1)]
        for later in ([change(2, 2, 11)], [sleeper(7, 1, 11)], [change(2, 0, 11), sleeper(7, 1, 300), sleeper(8, 1, 11)]):
            self.assertEqual(last(*out, *later, releases()), [0, 1, 0, 2, 2, 2, 1])
        more = [sleeper(3, 0, 50), sleeper(4, 0, 700), release(2, 2, 1, 1), change(4, 1, 50), releases()]
        self.assertEqual(last(*out, *more), [0, 2] + [0, 2, 2, 2, 1] + [0, 2, 2, 4, 1])

    def test_a_new_form_has_none_a_wrong_one_changes_nothing(self):
        out = [AGE, *ages(11, 11), release(2, 2, 0, 1)]
        self.assertEqual(last(*out, AGE, releases()), [0, 0])
        self.assertEqual(last(*out, WRONG, releases()), [0, 1, 0, 2, 2, 2, 0])


class Hidden(unittest.TestCase):
    def both(self, calls, w):
        return ask(*calls, hidden(w), could(w))[-2:]

    def test_no_release(self):
        self.assertEqual(self.both([AGE, sleeper(5, 2, 11)], 5), [[0, 0, 0, 1, 1], [0, 0, 0, 1]])
        for w in range(4):
            self.assertEqual(self.both([AGE, *ages(11, 11, 30, 500)], w), [[0, 0, 0, 4, 3], [0, 2, 1, 1]])

    def test_a_release_that_has_the_row_and_one_that_does_not(self):
        out = [AGE, *ages(11, 11, 11, 50), release(3, 3, 1, 1)]
        for w in range(3):
            self.assertEqual(self.both(out, w), [[0, 3, 3, 3, 3], [0, 1, 1, 1]])
        self.assertEqual(self.both(out, 3), [[0, 0, 0, 4, 3], [0, 2, 1, 1]])

    def test_rows_that_look_unlike_are_not_among_them(self):
        out = [AGE, *ages(11, 12, 13, 25, 26), release(2, 1, 0, 1)]
        self.assertEqual(last(*out), [0, 1, 1, 2, 1, 5, 0])
        self.assertEqual(self.both(out, 1), [[0, 2, 1, 3, 3], [0, 1, 1, 1]])
        self.assertEqual(self.both(out, 4), [[0, 2, 1, 2, 2], [0, 1, 1, 0]])

    def test_rows_that_the_release_left_out_are_not_among_them_even_if_they_look_alike_now(self):
        out = [AGE, *ages(11, 11, 50), release(2, 2, 1, 1), change(2, 2, 11)]
        self.assertEqual(self.both(out, 0), [[0, 2, 2, 2, 2], [0, 1, 1, 0]])
        self.assertEqual(self.both(out, 2), [[0, 0, 0, 3, 3], [0, 1, 1, 1]])

    def test_rows_that_came_after_the_release(self):
        out = [AGE, *ages(11, 11, 50), release(2, 2, 1, 1), sleeper(7, 2, 11), sleeper(8, 2, 11)]
        self.assertEqual(self.both(out, 1), [[0, 2, 2, 2, 2], [0, 1, 1, 0]])
        for w in (2, 7, 8):
            self.assertEqual(self.both(out, w), [[0, 0, 0, 5, 3], [0, 1, 1, 3]])

    def test_several_releases_hide_among_those_that_are_alike_in_each(self):
        out = DOUBLED + [release(2, 1, 0, 1, 0), release(2, 1, 0, 0, 1)]
        self.assertEqual(ask(*out)[-2:], [[0, 7, 0, 1, 2, 1, 8, 0], [0, 5, 1, 0, 2, 1, 8, 0]])
        self.assertEqual(self.both(out[:-1], 0), [[0, 2, 1, 4, 2], [0, 2, 2, 0, 0]])
        self.assertEqual(self.both(out[:-2] + out[-1:], 0), [[0, 2, 1, 4, 2], [0, 3, 0, 0, 1]])
        self.assertEqual(self.both(out, 0), [[0, 2, 1, 2, 1], [0, 2, 0, 0, 0]])
        self.assertEqual(self.both(out, 4), [[0, 2, 1, 2, 2], [0, 1, 0, 0, 1]])
        self.assertEqual(self.both(out, 7), [[0, 2, 1, 2, 1], [0, 0, 2, 0, 0]])

    def test_the_greatest_k_and_the_greatest_u_may_be_of_unlike_releases(self):
        for pair in ((release(4, 1, 0, 1, 0), release(1, 2, 0, 0, 0)), (release(1, 2, 0, 0, 0), release(4, 1, 0, 1, 0))):
            self.assertEqual(self.both(DOUBLED + list(pair), 0), [[0, 4, 2, 4, 2], [0, 2, 2, 0, 0]])
            self.assertEqual(self.both(DOUBLED + list(pair), 5), [[0, 4, 2, 4, 3], [0, 1, 2, 0, 1]])

    def test_only_releases_that_have_the_row_count(self):
        out = [AGE, *ages(11, 11, 50), release(2, 2, 1, 1), sleeper(3, 0, 50), release(1, 1, 0, 1)]
        self.assertEqual(ask(*out)[-3], [0, 0, 0, 2, 2, 2, 1])
        self.assertEqual(last(*out), [0, 0, 0, 1, 1, 4, 0])
        self.assertEqual(self.both(out, 0), [[0, 2, 2, 2, 2], [0, 1, 1, 0]])
        self.assertEqual(self.both(out, 2), [[0, 1, 1, 2, 2], [0, 1, 0, 1]])
        self.assertEqual(self.both(out, 3), [[0, 1, 1, 2, 2], [0, 1, 0, 1]])

    def test_all_values_of_the_secret(self):
        twelve = form("numbers n\ncosts 0 0\nsecret s l k j i h g f e d c b a\n")
        rows = [sleeper(w, s, 3) for w, s in enumerate((11, 0, 0, 5, 11))]
        self.assertEqual(self.both([twelve, *rows], 3), [[0, 0, 0, 5, 3], [0, 2, 0, 0, 0, 0, 1, 0, 0, 0, 0, 0, 2]])

    def test_a_changed_secret(self):
        self.assertEqual(self.both([AGE, *ages(11, 12), change(0, 2, 11)], 1), [[0, 0, 0, 2, 2], [0, 0, 1, 1]])

    def test_no_such_sleeper(self):
        for w in (0, 999, 1000, -1, FAR, -FAR):
            self.assertEqual(self.both([AGE], w), [[-4], [-4]])
            self.assertEqual(self.both([AGE, sleeper(5, 0, 11), release(1, 1, 0, 1)], w), [[-4], [-4]])
            self.assertEqual(self.both([], w), [[-9], [-9]])
        self.assertEqual(self.both([AGE, sleeper(999, 0, 11)], 999), [[0, 0, 0, 1, 1], [0, 1, 0, 0]])
        self.assertEqual(self.both([AGE, sleeper(0, 0, 11)], 0), [[0, 0, 0, 1, 1], [0, 1, 0, 0]])
        self.assertEqual(self.both([AGE, sleeper(5, 0, 11), AGE], 5), [[-4], [-4]])


class Cost(unittest.TestCase):
    def test_each_level(self):
        self.assertEqual(ask(AGE, *[cost(level) for level in range(4)])[1:], [[0, 0], [0, 1], [0, 5], [0, 9]])

    def test_the_columns_are_summed(self):
        for levels, expected in (((0, 0), 1), ((0, 1), 4), ((1, 0), 3), ((1, 1), 6), ((2, 0), 8), ((2, 1), 11)):
            self.assertEqual(last(TWO, cost(*levels)), [0, expected])
        four = form("".join(f"numbers {name}\ncosts {number} 10000\n" for number, name in enumerate("abcd")) + "secret s x y\n")
        self.assertEqual(ask(four, cost(0, 0, 0, 0), cost(1, 1, 1, 1), cost(0, 1, 0, 0))[1:],
                         [[0, 6], [0, 40000], [0, 10005]])

    def test_refusals(self):
        for levels in ((), (0,), (0, 0, 0), (3, 0), (0, 2), (-1, 0), (0, -1), (FAR, 0), (0, -FAR), (0,) * 10):
            self.assertEqual(last(TWO, cost(*levels)), [-1])
            self.assertEqual(last(TWO, sleeper(0, 0, 5, 0), cost(*levels)), [-1])
            self.assertEqual(last(cost(*levels)), [-9])


class NextPlan(unittest.TestCase):
    def test_columns_asked_for_and_not(self):
        for columns, looked_at in (((1, 1), 6), ((1, 0), 3), ((0, 1), 2), ((0, 0), 1)):
            rows = [sleeper(w, w, 5, 1) for w in range(2)]
            self.assertEqual(last(TWO, *rows, next_plan(2, 2, 0, *columns)), [0] + [looked_at] * 3)

    def test_no_sleepers(self):
        for columns, looked_at in (((1, 1), 6), ((1, 0), 3), ((0, 1), 2), ((0, 0), 1)):
            self.assertEqual(last(TWO, next_plan(1, 1, 40, *columns)), [0, looked_at, 0, 0])

    def test_the_most_levels(self):
        parts = [f"numbers {name} 10 100\ncosts 0 0 0 0\n" for name in "abcd"]
        rows = [sleeper(0, 0, 5, 5, 5, 5), sleeper(1, 1, 5, 15, 5, 500)]
        begun = [form("".join(parts) + "secret s x y\n")] + rows
        self.assertEqual(last(*begun, next_plan(2, 2, 0, 1, 1, 1, 1)), [0, 256, 32, 32])
        self.assertEqual(last(*begun, next_plan(1, 1, 0, 1, 1, 1, 1)), [0, 256, 256, 256])
        self.assertEqual(last(*begun, next_plan(2, 2, 0, 0, 1, 0, 1)), [0, 16, 2, 2])

    def test_how_many_may_be_left_out(self):
        rows = ages(11, 12, 13, 14, 35, 36, 57)
        for m, expected in ((0, 2), (1, 3), (6, 3), (7, 3), (40, 3)):
            self.assertEqual(last(AGE, *rows, next_plan(2, 2, m, 1)), [0, 4, expected, expected])

    def test_k_and_u(self):
        rows = ages(11, 11, 12, 25, 25)
        for k, u, m, expected in ((1, 1, 0, 4), (2, 1, 0, 3), (2, 1, 1, 4), (2, 3, 0, 2), (2, 3, 2, 3), (3, 1, 0, 2),
                                  (3, 1, 40, 3), (5, 3, 40, 2), (6, 1, 40, 0), (1, 4, 40, 0)):
            with self.subTest(k=k, u=u, m=m):
                self.assertEqual(last(AGE, *rows, next_plan(k, u, m, 1)), [0, 4, expected, expected])

    def test_three_unlike_numbers(self):
        self.assertEqual(last(*CORNERS, next_plan(2, 1, 0, 1, 1)), [0, 4, 3, 3])
        out = CORNERS + [release(2, 1, 0, 1, 0)]
        self.assertEqual(last(*out, next_plan(2, 1, 0, 1, 1)), [0, 4, 2, 3])
        self.assertEqual(last(*out, next_plan(2, 1, 0, 0, 1)), [0, 2, 1, 2])
        self.assertEqual(last(*out, next_plan(2, 1, 0, 1, 0)), [0, 2, 2, 2])
        self.assertEqual(last(*out, next_plan(3, 1, 0, 1, 1)), [0, 4, 0, 1])
        self.assertEqual(last(*out, next_plan(1, 1, 0, 1, 1)), [0, 4, 2, 4])

    def test_where_none_may_go_out_any_more(self):
        out = [AGE, *ages(11, 11, 11, 50), release(3, 3, 1, 1)]
        self.assertEqual(last(*out, next_plan(4, 1, 0, 1)), [0, 4, 0, 2])
        self.assertEqual(ask(*out, plan(4, 1, 0, 1), release(4, 1, 0, 1))[-2:], [[0, 0], [-8]])

    def test_rows_that_came_later_count_now(self):
        out = [AGE, *ages(11, 12), release(2, 2, 0, 1), sleeper(7, 2, 13)]
        self.assertEqual(last(*out, next_plan(3, 3, 0, 1)), [0, 4, 0, 3])
        self.assertEqual(last(*out, next_plan(2, 2, 0, 1)), [0, 4, 3, 3])

    def test_four_releases(self):
        four = CORNERS + [release(2, 1, 0, 1, 0)] * 4
        self.assertEqual(ask(*four, next_plan(2, 1, 0, 1, 1), release(2, 1, 0, 1, 1), next_plan(2, 1, 0, 1, 1))[-3:],
                         [[0, 4, 2, 3], [-6], [0, 4, 2, 3]])

    def test_nothing_goes_out(self):
        self.assertEqual(ask(AGE, *ages(11, 11), *[next_plan(2, 2, 0, 1)] * 5, releases(), change(0, 0, 5))[-3:],
                         [[0, 4, 4, 4], [0, 0], [0]])

    def test_numbers_at_and_beyond_their_bounds(self):
        begun = [AGE, *ages(11, 11, 11)]
        self.assertEqual(last(*begun, next_plan(1, 1, 0, 1)), [0, 4, 4, 4])
        self.assertEqual(last(*begun, next_plan(40, 12, 40, 1)), [0, 4, 0, 0])
        for numbers in ((0, 1, 0), (41, 1, 0), (1, 0, 0), (1, 13, 0), (1, 1, -1), (1, 1, 41), (FAR, 1, 0), (1, -FAR, 0),
                        (1, 1, FAR)):
            self.assertEqual(last(*begun, next_plan(*numbers, 1)), [-1])
        for columns in ((), (2,), (-1,), (1, 1), (FAR,), (0, 0), (1,) * 10):
            self.assertEqual(last(*begun, next_plan(1, 1, 0, *columns)), [-1])
        four = begun + [release(1, 1, 0, 1)] * 4
        self.assertEqual(last(*four, next_plan(41, 1, 0, 1)), [-1])
        self.assertEqual(last(next_plan(41, 1, 0, 1)), [-9])


class Counts(unittest.TestCase):
    def test_ahead_of_sleepers(self):
        self.assertEqual(last(AGE, counts()), [0, 1, 3, 0, 0])
        self.assertEqual(last(TWO, counts()), [0, 2, 2, 0, 0])

    def test_sleepers_and_releases(self):
        self.assertEqual(last(AGE, *ages(11, 11, 50), counts()), [0, 1, 3, 3, 0])
        out = [*CORNERS, release(2, 1, 0, 1, 0), release(2, 1, 0, 0, 0)]
        self.assertEqual(last(*out, counts()), [0, 2, 4, 4, 2])
        forty = [sleeper(w, 0, 5) for w in range(40)]
        self.assertEqual(last(AGE, *forty, *[release(1, 1, 0, 1)] * 4, counts()), [0, 1, 3, 40, 4])

    def test_what_is_refused_does_not_count(self):
        forty = [sleeper(w, 0, 5) for w in range(40)]
        refused = [sleeper(0, 0, 5), sleeper(41, 0, 5), sleeper(1000, 0, 5), release(41, 1, 0, 1), release(40, 2, 0, 1)]
        self.assertEqual(last(AGE, *forty, *[release(1, 1, 0, 1)] * 4, *refused, release(1, 1, 0, 1), counts()),
                         [0, 1, 3, 40, 4])
        self.assertEqual(last(AGE, *ages(11, 12), change(0, 0, 5), plan(1, 1, 0, 1), release(3, 1, 0, 1), counts()),
                         [0, 1, 3, 2, 0])

    def test_after_another_form_and_after_a_wrong_one(self):
        out = [*CORNERS, release(2, 1, 0, 1, 0)]
        self.assertEqual(last(*out, AGE, counts()), [0, 1, 3, 0, 0])
        self.assertEqual(last(*out, WRONG, counts()), [0, 2, 4, 4, 1])
        self.assertEqual(last(WRONG, counts()), [-9])


class NothingChanges(unittest.TestCase):
    asked = [text(0), releases(), hidden(1), could(3), cost(0, 0), next_plan(2, 1, 0, 1, 1), printed(), counts()]
    refused = [text(-1), text(2), hidden(9), could(-1), cost(2, 0), cost(), next_plan(0, 1, 0, 1, 1), next_plan(1, 1, 0)]

    def test_asking_changes_nothing(self):
        steps = [*CORNERS, release(2, 1, 0, 1, 0), sleeper(6, 3, 0, 1), release(2, 1, 1, 1, 1), change(6, 0, 0, 1),
                 short(2, 1, 0, 0), show(6, 0, 0), *self.asked]
        plain = ask(*steps)
        for between in self.asked + self.refused:
            given = ask(*[call for step in steps for call in (step, between)])
            self.assertEqual(given[::2], plain)

    def test_the_same_asked_again_is_the_same(self):
        out = [*CORNERS, release(2, 1, 0, 1, 0)]
        given = ask(*out, *self.asked, *self.refused, *self.asked)
        self.assertEqual(given[-8:], given[-24:-16])
        self.assertEqual([answer[0] for answer in given[-16:-8]], [-1, -1, -4, -4, -1, -1, -1, -1])


if __name__ == "__main__":
    unittest.main()
