"""Call 0: the form's text, its answer, and the wrong line's number."""

import unittest

from helper import ask, form, last, plan, release, show, sleeper

COLUMN = "numbers age\ncosts 0 1\n"
SECRET = "secret ill yes no\n"


def letters(number):
    return "w" + "abcdefghijklmnopqrstuvwxyz"[number // 26] + "abcdefghijklmnopqrstuvwxyz"[number % 26]


def word_lines(count):
    return "".join(f"word {letters(number)}\n" for number in range(count))


class FormTest(unittest.TestCase):
    def right(self, text, *rest):
        with self.subTest(text=text):
            self.assertEqual(last(form(text)), [0] + list(rest))

    def wrong(self, text, line):
        with self.subTest(text=text):
            self.assertEqual(last(form(text)), [1, line])


class RightForms(FormTest):
    def test_numbers_columns_have_a_level_for_each_step_and_two_more(self):
        self.right("numbers a\ncosts 0 0\n" + SECRET, 1, 2, 2)
        self.right("numbers a 10\ncosts 0 0 0\n" + SECRET, 1, 2, 3)
        self.right("numbers a 10 100\ncosts 0 0 0 0\n" + SECRET, 1, 2, 4)

    def test_words_columns_have_a_level_for_each_word_above_and_two_more(self):
        self.right("words a\nword b\ncosts 0 0\n" + SECRET, 1, 2, 2)
        self.right("words a\nword b\nword c of b\ncosts 0 0 0\n" + SECRET, 1, 2, 3)
        self.right("words a\nword a\nword b of a\nword c of b\nword d of a\ncosts 0 1 2 3\n" + SECRET, 1, 2, 4)

    def test_the_deepest_word_counts_wherever_it_stands(self):
        self.right("words a\nword b\nword c of b\nword d of c\nword e\nword f of e\ncosts 0 0 0 0\n" + SECRET, 1, 2, 4)

    def test_secret_ahead_between_and_behind(self):
        other = "words town\nword x\nword y of x\ncosts 1 2 3\n"
        self.right(SECRET + COLUMN + other, 2, 2, 2, 3)
        self.right(COLUMN + SECRET + other, 2, 2, 2, 3)
        self.right(COLUMN + other + SECRET, 2, 2, 2, 3)

    def test_columns_in_their_order(self):
        self.right("words town\nword x\nword y of x\ncosts 1 2 3\n" + COLUMN + SECRET, 2, 2, 3, 2)

    def test_last_line_end_may_be_missing(self):
        self.right(COLUMN + SECRET[:-1], 1, 2, 2)
        self.right(SECRET + COLUMN[:-1], 1, 2, 2)

    def test_lines_without_words_and_many_blanks_mean_nothing(self):
        text = "\n  \n  words   town \n\n   \nword x\n\n  word  y   of x  \n \n  costs  1 2   3 \n\nnumbers age  5\n\ncosts 0 1 2\n\n"
        self.right(text + "  secret   ill  yes   no  ", 2, 2, 3, 3)

    def test_number_of_values_at_its_bounds(self):
        self.right(COLUMN + "secret ill a b\n", 1, 2, 2)
        self.right(COLUMN + "secret ill a b c d e f g h i j k l\n", 1, 12, 2)

    def test_number_of_columns_at_its_bounds(self):
        self.right(COLUMN + SECRET, 1, 2, 2)
        four = "".join(f"numbers {name}\ncosts 0 0\n" for name in "abcd")
        self.right(four + SECRET, 4, 2, 2, 2, 2, 2)

    def test_number_of_words_at_its_bounds(self):
        self.right("words a\n" + word_lines(30) + "costs 0 0\n" + SECRET, 1, 2, 2)

    def test_names_steps_and_costs_at_their_bounds(self):
        self.right("numbers abcdefghij 2 1000000\ncosts 0 0 10000 10000\n" + SECRET, 1, 2, 4)
        self.right("numbers a 1000000\ncosts 0 0 0\nsecret z abcdefghij y\n", 1, 2, 3)
        self.right("words z\nword abcdefghij\ncosts 0 10000\n" + SECRET, 1, 2, 2)

    def test_the_same_name_may_stand_where_no_rule_forbids_it(self):
        self.right("words a\nword a\nword of\nword b of of\ncosts 0 0 0\nsecret s s a\n", 1, 2, 3)
        self.right("words a\nword x\ncosts 0 0\nwords b\nword x\nword a\ncosts 0 0\n" + SECRET, 2, 2, 2, 2)
        self.right("numbers numbers\ncosts 0 0\nwords costs\nword word\ncosts 0 0\nsecret secret costs words\n", 2, 2, 2, 2)


class WrongColumns(FormTest):
    def test_names(self):
        for name in ("abcdefghijk", "Age", "a1", "1", "a-b", "\0", "\xff", "a\t", "\x0d", "age\r", "A", "`", "{", "?", "*"):
            self.wrong(f"\nnumbers {name}\ncosts 0 0\n" + SECRET, 2)
            self.wrong(f"words {name}\nword x\ncosts 0 0\n" + SECRET, 1)
            self.wrong(f"words a\nword {name}\ncosts 0 0\n" + SECRET, 2)
            self.wrong(COLUMN + f"secret {name} x y\n", 3)
            self.wrong(COLUMN + f"secret ill x {name}\n", 3)
        self.wrong("numbers\ncosts 0 0\n" + SECRET, 1)
        self.wrong("words\nword x\ncosts 0 0\n" + SECRET, 1)
        self.wrong("words a b\nword x\ncosts 0 0\n" + SECRET, 1)

    def test_names_that_are_taken(self):
        self.wrong(COLUMN + COLUMN + SECRET, 3)
        self.wrong(COLUMN + "words age\nword x\ncosts 0 0\n" + SECRET, 3)
        self.wrong(COLUMN + "secret age x y\n", 3)
        self.wrong("secret age x y\n" + COLUMN, 2)
        self.wrong("secret age x y\nwords age\nword x\ncosts 0 0\n", 2)

    def test_steps(self):
        for steps in ("1", "0", "1000001", "02", "+2", "-2", "2x", "x", "2.0", "10 15", "10 10", "10 5", "10 1000001",
                      "10 010", "4 2", "2 4 8", "1 2", "3 1000000", "9" * 900, "2 4 x"):
            count = len(steps.split()) + 2
            self.wrong(f"numbers age {steps}\ncosts{' 0' * count}\n" + SECRET, 1)

    def test_words(self):
        for lines, line in (
            ("word", 2),
            ("word x y", 2),
            ("word x\nword y of", 3),
            ("word x\nword y off x", 3),
            ("word x\nword y x of", 3),
            ("word x\nword y of x x", 3),
            ("word x\nword x", 3),
            ("word x\nword y\nword x of y", 4),
            ("word x of x", 2),
            ("word x of y\nword y", 2),
            ("word x\nword y of z", 3),
            ("word x\nword y of x\nword z of y\nword w of z", 5),
            ("word x\nwords y", 3),
            ("word x\nof y", 3),
        ):
            self.wrong(f"words a\n{lines}\ncosts 0 0 0 0\n" + SECRET, line)

    def test_word_of_another_column_is_not_above(self):
        self.wrong("words a\nword x\ncosts 0 0\nwords b\nword y of x\ncosts 0 0 0\n" + SECRET, 5)

    def test_number_of_words_one_beyond(self):
        self.wrong("words a\ncosts 0\n" + SECRET, 2)
        self.wrong("words a\ncosts\n" + SECRET, 2)
        self.wrong("words a\ncosts 0 0\n" + SECRET, 2)
        self.wrong("words a\n" + word_lines(31) + "costs 0 0\n" + SECRET, 32)

    def test_word_where_no_words_column_is_begun(self):
        self.wrong("word x\n" + COLUMN + SECRET, 1)
        self.wrong("numbers age\nword x\ncosts 0 0\n" + SECRET, 2)
        self.wrong("words a\nword x\ncosts 0 0\nword y\n" + SECRET, 4)

    def test_costs(self):
        for costs in ("", "0", "0 1", "0 1 2 3", "0 1 10001", "0 2 1", "2 1 3", "0 1 02", "00 1 2", "0 1 x", "0 -1 2",
                      "0 1 " + "9" * 900):
            self.wrong(f"numbers age 10\ncosts {costs}\n" + SECRET, 2)
            self.wrong(f"words age\nword x\nword y of x\ncosts {costs}\n" + SECRET, 4)

    def test_numbers_behind_another_word_than_costs(self):
        for word in ("cost", "Costs", "costss", "secret", "of"):
            self.wrong(f"numbers age\n{word} 0 1\n" + SECRET, 2)
            self.wrong(f"words age\nword x\n{word} 0 1\n" + SECRET, 3)

    def test_costs_where_no_column_is_begun(self):
        self.wrong("costs 0 0\n" + COLUMN + SECRET, 1)
        self.wrong(COLUMN + "costs 0 1\n" + SECRET, 3)

    def test_column_that_is_not_ended(self):
        for begun, line in (("numbers a\n", 2), ("words a\n", 2), ("words a\nword x\n", 3)):
            self.wrong(begun + "secret ill yes no\n" + COLUMN, line)
            self.wrong(begun + COLUMN + SECRET, line)
            self.wrong(begun + "\n\nwords b\nword y\ncosts 0 0\n" + SECRET, line + 2)

    def test_fifth_column(self):
        four = "".join(f"numbers {name}\ncosts 0 0\n" for name in "abcd")
        self.wrong(four + COLUMN + SECRET, 9)
        self.wrong(four + SECRET + "words e\nword x\ncosts 0 0\n", 10)


class WrongSecrets(FormTest):
    def test_values(self):
        for values in ("", "a", "a a", "a b a", "a b c d e f g h i j k l m", "a B", "a b 1", "a abcdefghijk"):
            self.wrong(COLUMN + f"secret ill {values}\n", 3)
        self.wrong(COLUMN + "secret\n", 3)

    def test_second_secret(self):
        self.wrong(COLUMN + SECRET + SECRET, 4)
        self.wrong(SECRET + "secret other a b\n" + COLUMN, 2)


class OtherWrongTexts(FormTest):
    def test_line_that_is_none_of_these(self):
        for line in ("foo", "Numbers b", "SECRET a b c", "number b", "secrets a b c", "*", "\0", "\t", "\xff", "\r", "of", "0"):
            self.wrong(COLUMN + line + "\n" + SECRET, 3)
            self.wrong("numbers b\n" + line + "\ncosts 0 0\n" + SECRET, 2)
            self.wrong("words b\nword x\n" + line + "\ncosts 0 0\n" + SECRET, 3)
            self.wrong(COLUMN + SECRET + line, 4)

    def test_other_signs_are_no_blanks(self):
        self.wrong("numbers\tage\ncosts 0 1\n" + SECRET, 1)
        self.wrong("numbers age\r\ncosts 0 1\r\n" + SECRET, 1)
        self.wrong("numbers age\ncosts 0\xa01\n" + SECRET, 2)

    def test_first_wrong_line_counts(self):
        self.wrong("\n\nfoo\nbar\n", 3)
        self.wrong(COLUMN + "numbers age\nfoo\n", 3)

    def test_text_that_ends_too_early(self):
        self.wrong("", 1)
        self.wrong("\n", 2)
        self.wrong("\n\n", 3)
        self.wrong(" ", 2)
        self.wrong(" \n  ", 3)
        self.wrong(COLUMN, 3)
        self.wrong(COLUMN[:-1], 3)
        self.wrong(COLUMN + "\n", 4)
        self.wrong(COLUMN + " ", 4)
        self.wrong(SECRET, 2)
        self.wrong(SECRET[:-1], 2)
        self.wrong(SECRET + "numbers a\n", 3)
        self.wrong(SECRET + "words a\n", 3)
        self.wrong(SECRET + "words a\nword x", 4)
        self.wrong(COLUMN + SECRET + "words a\nword x\n", 6)


class WhatAFormChanges(unittest.TestCase):
    def setUp(self):
        self.begun = [form("numbers age 10\ncosts 0 1 2\n" + SECRET)] + [sleeper(w, w % 2, 10 + w) for w in range(4)]
        self.begun.append(release(2, 2, 0, 1))

    def test_wrong_form_changes_nothing(self):
        for text in ("", "foo", COLUMN, COLUMN + SECRET + "foo", "numbers x\ncosts 0 0\nsecret a b c\nsecret d e f\n"):
            rest = [show(0, 1), sleeper(0, 0, 1), [2, 0, 0, 1, 1], plan(1, 1, 0, 1), release(2, 2, 0, 1)]
            without = ask(*self.begun, *rest)
            wrong = ask(*self.begun, form(text), *rest)
            self.assertEqual(wrong[len(self.begun)][0], 1)
            self.assertEqual(wrong[:len(self.begun)] + wrong[len(self.begun) + 1:], without)

    def test_wrong_form_is_no_form(self):
        self.assertEqual(ask(form("foo"), show(0, 0)), [[1, 1], [-9]])

    def test_right_form_leaves_no_sleepers(self):
        self.assertEqual(last(*self.begun, form(COLUMN + SECRET), show(0, 0)), [-4])
        self.assertEqual(last(*self.begun, form(COLUMN + SECRET), sleeper(0, 0, 5)), [0])
        self.assertEqual(last(*self.begun, form(COLUMN + SECRET), plan(1, 1, 40, 1)), [0, 0])

    def test_right_form_leaves_no_releases(self):
        again = self.begun + [release(2, 2, 0, 1)] * 3
        self.assertEqual(last(*again, release(2, 2, 0, 1)), [-6])
        self.assertEqual(last(*again, *self.begun), [0, 1, 1, 2, 2, 4, 0])
        self.assertEqual(last(*self.begun, *self.begun[:-1], [2, 0, 0, 1, 1]), [0])

    def test_the_new_form_holds_from_then_on(self):
        new = "words town\nword x\ncosts 0 0\nwords land\nword y\ncosts 0 0\nsecret z a b c\n"
        self.assertEqual(ask(*self.begun, form(new), sleeper(0, 2, 0, 0), sleeper(1, 0, 5))[-3:],
                         [[0, 2, 3, 2, 2], [0], [-1]])


if __name__ == "__main__":
    unittest.main()
