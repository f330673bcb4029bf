"""How calls stand in the one list, and answers in the one that is given back."""

import unittest

from blindrelease.house import answers
from helper import (alike, ask, change, cost, could, counts, form, hidden, joined, next_plan, plan, printed, release,
                    releases, short, show, sleeper, text)

FORM = form("numbers age 10\ncosts 0 1 2\nsecret ill a b\n")
AHEAD_OF_A_FORM = (
    sleeper(0, 0, 1), change(0, 0, 1), show(0, 0), alike(0, 0), short(1, 1, 0), plan(1, 1, 0, 1), release(1, 1, 0, 1),
    text(0), releases(), hidden(0), could(0), cost(0), next_plan(1, 1, 0, 1), printed(), counts(),
)
REFUSED_OTHERWISE_TOO = (
    sleeper(-1, 0, 1), change(0, -1, 1), show(-1), alike(0, 5), short(0, 1, 0), plan(41, 1, 0, 1), release(1, 1, 41, 1),
    text(-1), text(4), hidden(-1), hidden(1000), could(10 ** 18), cost(), cost(0, 0), next_plan(0, 0, -1), next_plan(1, 1, 0, 2),
)


class Interface(unittest.TestCase):
    def test_the_list_that_is_given_back(self):
        self.assertEqual(answers(FORM), [4, 0, 1, 2, 3])
        self.assertEqual(answers([0, 0]), [2, 1, 1])
        self.assertEqual(answers(FORM + sleeper(4, 1, 57) + show(4, 1) + show(5, 1) + alike(4, 0)),
                         [4, 0, 1, 2, 3, 1, 0, 4, 0, 2, 53, 48, 1, -4, 3, 0, 1, 1])

    def test_no_form(self):
        for call in AHEAD_OF_A_FORM + REFUSED_OTHERWISE_TOO:
            self.assertEqual(answers(list(call)), [1, -9])
            self.assertEqual(ask(form("numbers\n"), call), [[1, 1], [-9]])
        self.assertEqual(ask(*AHEAD_OF_A_FORM, FORM)[-1], [0, 1, 2, 3])
        self.assertEqual(ask(*AHEAD_OF_A_FORM, FORM)[:-1], [[-9]] * len(AHEAD_OF_A_FORM))

    def test_lists_of_any_count_are_gone_past(self):
        for count in (0, 1, 2, 10):
            row = [10 ** 18] * count
            calls = (sleeper(1, 0, *row), change(1, 0, *row), show(1, *row), alike(1, *row), short(1, 1, *row),
                     plan(1, 1, 1, *row), release(1, 1, 1, *row), cost(*row), next_plan(1, 1, 1, *row))
            self.assertEqual(ask(*calls, FORM, *calls)[:9], [[-9]] * 9)
            self.assertEqual(ask(*calls, FORM, *calls)[10:], [[-1]] * 9)

    def test_many_calls_in_any_order(self):
        given = ask(
            show(1, 0), FORM, show(1, 0), sleeper(1, 0, 11), plan(2, 2, 0, 1), sleeper(2, 1, 12), short(2, 1, 0),
            release(2, 2, 0, 1), change(2, 1, 13), alike(1, 1), FORM, alike(1, 1),
        )
        self.assertEqual(given, [
            [-9], [0, 1, 2, 3], [-4], [0], [0, 0], [0], [0, 2, 1, 2],
            [0, 1, 1, 2, 2, 2, 0], [-5], [0, 2, 2], [0, 1, 2, 3], [-4],
        ])

    def test_the_later_calls_in_the_one_list(self):
        begun = FORM + sleeper(4, 1, 57) + release(1, 1, 0, 1)
        before = answers(begun)
        self.assertEqual(answers(begun + [8, 0, 9, 10, 4, 11, 4, 12, 1, 2, 13, 1, 1, 0, 1, 1, 15]), before + [
            11, 0, 9, 53, 55, 32, 58, 32, 48, 32, 49, 10,
            7, 0, 1, 0, 1, 1, 1, 0, 5, 0, 1, 1, 1, 1, 3, 0, 0, 1, 2, 0, 2, 4, 0, 3, 3, 3, 5, 0, 1, 2, 1, 1])
        self.assertEqual(answers(begun + [14, 8, 1, 10, 5, 11, -1, 12, 0, 13, 1, 1, 0, 0, 14]),
                         before + [44, 0, 42] + list(b"numbers age 10\ncosts 0 1 2\nsecret ill a b\n")
                         + [1, -1, 1, -4, 1, -4, 1, -1, 1, -1]
                         + [44, 0, 42] + list(b"numbers age 10\ncosts 0 1 2\nsecret ill a b\n"))

    def test_a_hundred_and_fifty_of_all_calls(self):
        parts = "".join(f"words {name}\nword a\nword b of a\nword c of b\ncosts 0 1 2 3\n" for name in "wxyz")
        begun = [printed(), form(parts + "secret ill a b c\n")]
        begun += [sleeper(w, w % 3, w % 2, w // 2 % 2, w // 4 % 2, 2) for w in range(40)]
        planned = [next_plan(2, 2, 0, 1, 1, 1, 1), plan(2, 2, 0, 1, 1, 1, 1), release(2, 2, 0, 1, 1, 1, 1)] * 4
        rest = [text(0), releases(), hidden(7), could(7), cost(3, 3, 3, 3), counts(), show(7, 1, 1, 1, 1),
                alike(7, 0, 0, 0, 0), short(6, 1, 0, 0, 0, 0), change(7, 0, 0, 0, 0, 0), printed(), text(4)]
        calls = begun + planned + rest * 8
        self.assertEqual(len(calls), 150)
        given = ask(*calls)
        self.assertEqual(given[42:45], [[0, 256, 256, 256], [0, 1, 0, 0, 0, 0, 0, 2, 2, 40, 0], [0, 0, 0, 0, 0, 0, 2, 2, 40, 0]])
        self.assertEqual(given[45:54], given[42:45] * 3)
        self.assertEqual(given[54:66] * 8, given[54:])
        lines = "".join(f"{one} {two} {three} c : {shares}\n" for (one, two, three), shares in zip(
            [(one, two, three) for one in "ab" for two in "ab" for three in "ab"],
            ("2 1 2", "2 2 1", "1 2 2", "2 1 2", "2 2 1", "1 2 2", "2 1 2", "2 2 1")))
        self.assertEqual(given[54], [0, len(lines)] + list(lines.encode()))
        self.assertEqual(given[55], [0, 4] + [0, 0, 0, 0, 2, 2, 40, 0] * 4)
        self.assertEqual(given[56:60], [[0, 2, 2, 5, 3], [0, 2, 2, 1], [0, 12], [0, 4, 3, 40, 4]])
        self.assertEqual(given[60:64], [[0] + [1, 97] * 3 + [1, 98], [0, 5, 3], [0, 40] + list(range(40)), [-5]])
        self.assertEqual((bytes(given[64][2:]).decode(), given[65]), (parts + "secret ill a b c\n", [-1]))

    def test_a_hundred_and_fifty_calls(self):
        calls = [FORM] + [sleeper(w, 0, w) for w in range(149)]
        self.assertEqual(ask(*calls)[1:], [[0]] * 40 + [[-6]] * 109)

    def test_a_text_of_two_thousand_bytes(self):
        text = "numbers age 10\ncosts 0 1 2\nsecret ill a b\n"
        self.assertEqual(ask(form(text + " " * (2000 - len(text)))), [[0, 1, 2, 3]])
        self.assertEqual(ask(form("\n" * 2000)), [[1, 2001]])

    def test_the_same_list_asked_twice(self):
        calls = joined([FORM, sleeper(1, 0, 11), sleeper(2, 1, 12), release(2, 2, 0, 1), change(1, 0, 5), show(1, 0), text(0),
                        releases(), hidden(1), could(1), cost(1), next_plan(2, 2, 0, 1), printed(), counts()])
        kept = list(calls)
        first = answers(calls)
        second = answers(calls)
        self.assertEqual(first, second)
        self.assertEqual(calls, kept)
        self.assertIsNot(first, second)

    def test_nothing_is_kept_from_one_time_to_the_next(self):
        ask(FORM, sleeper(1, 0, 11), release(1, 1, 0, 1))
        self.assertEqual(ask(sleeper(1, 0, 11)), [[-9]])
        self.assertEqual(ask(FORM, show(1, 0)), [[0, 1, 2, 3], [-4]])

    def test_what_is_given_back_is_the_callers_own(self):
        first = answers(FORM + sleeper(1, 0, 11) + show(1, 0))
        kept = list(first)
        first.clear()
        self.assertEqual(answers(FORM + sleeper(1, 0, 11) + show(1, 0)), kept)


if __name__ == "__main__":
    unittest.main()
