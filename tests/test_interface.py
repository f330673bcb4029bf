"""How calls stand in the one list, and answers in the one that is given back."""

import unittest

from blindrelease.house import answers
from helper import alike, ask, change, form, joined, plan, release, short, show, sleeper

FORM = form("numbers age 10\ncosts 0 1 2\nsecret ill a b\n")
AHEAD_OF_A_FORM = (
    sleeper(0, 0, 1), change(0, 0, 1), show(0, 0), alike(0, 0), short(1, 1, 0), plan(1, 1, 0, 1), release(1, 1, 0, 1),
    [8, 0], [9], [10, 0], [11, 0], [12, 2, 3, 3], [13, 1, 1, 0, 2, 7, 7], [14], [15],
)


class Interface(unittest.TestCase):
    def test_the_list_that_is_given_back(self):
        self.assertEqual(answers(FORM), [4, 0, 1, 2, 3])
        self.assertEqual(answers([0, 0]), [2, 1, 1])
        self.assertEqual(answers(FORM + sleeper(4, 1, 57) + show(4, 1) + show(5, 1) + alike(4, 0)),
                         [4, 0, 1, 2, 3, 1, 0, 4, 0, 2, 53, 48, 1, -4, 3, 0, 1, 1])

    def test_no_form(self):
        for call in AHEAD_OF_A_FORM:
            self.assertEqual(answers(list(call)), [1, -9])
        self.assertEqual(ask(*AHEAD_OF_A_FORM, FORM)[-1], [0, 1, 2, 3])
        self.assertEqual(ask(*AHEAD_OF_A_FORM, FORM)[:-1], [[-9]] * len(AHEAD_OF_A_FORM))

    def test_lists_of_any_count_are_gone_past(self):
        for count in (0, 1, 2, 10):
            row = [10 ** 18] * count
            calls = (sleeper(1, 0, *row), change(1, 0, *row), show(1, *row), alike(1, *row), short(1, 1, *row),
                     plan(1, 1, 1, *row), release(1, 1, 1, *row))
            self.assertEqual(ask(*calls, FORM, *calls)[:7], [[-9]] * 7)
            self.assertEqual(ask(*calls, FORM, *calls)[8:], [[-1]] * 7)

    def test_many_calls_in_any_order(self):
        given = ask(
            show(1, 0), FORM, show(1, 0), sleeper(1, 0, 11), plan(2, 2, 0, 1), sleeper(2, 1, 12), short(2, 1, 0),
            release(2, 2, 0, 1), change(2, 1, 13), alike(1, 1), FORM, alike(1, 1),
        )
        self.assertEqual(given, [
            [-9], [0, 1, 2, 3], [-4], [0], [0, 0], [0], [0, 2, 1, 2],
            [0, 1, 1, 2, 2, 2, 0], [-5], [0, 2, 2], [0, 1, 2, 3], [-4],
        ])

    def test_a_hundred_and_fifty_calls(self):
        calls = [FORM] + [sleeper(w, 0, w) for w in range(149)]
        self.assertEqual(ask(*calls)[1:], [[0]] * 40 + [[-6]] * 109)

    def test_a_text_of_two_thousand_bytes(self):
        text = "numbers age 10\ncosts 0 1 2\nsecret ill a b\n"
        self.assertEqual(ask(form(text + " " * (2000 - len(text)))), [[0, 1, 2, 3]])
        self.assertEqual(ask(form("\n" * 2000)), [[1, 2001]])

    def test_the_same_list_asked_twice(self):
        calls = joined([FORM, sleeper(1, 0, 11), sleeper(2, 1, 12), release(2, 2, 0, 1), change(1, 0, 5), show(1, 0)])
        kept = list(calls)
        first = answers(calls)
        second = answers(calls)
        self.assertEqual(first, second)
        self.assertEqual(calls, kept)
        self.assertIsNot(first, second)

    def test_nothing_is_kept_from_one_time_to_the_next(self):
        ask(FORM, sleeper(1, 0, 11), release(1, 1, 0, 1))
        self.assertEqual(ask(sleeper(1, 0, 11)), [[-9]])
        self.assertEqual(ask(FORM, show(1, 0)), [[0, 1, 2, 3], [-4]])

    def test_what_is_given_back_is_the_callers_own(self):
        first = answers(FORM + sleeper(1, 0, 11) + show(1, 0))
        kept = list(first)
        first.clear()
        self.assertEqual(answers(FORM + sleeper(1, 0, 11) + show(1, 0)), kept)


if __name__ == "__main__":
    unittest.main()
