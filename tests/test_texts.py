"""Calls 8 and 14: a release's text, and the form's as it is printed."""

import unittest

from helper import ask, change, could, form, last, printed, release, sleeper, text, told_text

AGE = form("numbers age 10 100\ncosts 0 1 5 9\nsecret ill a b c\n")
TWO = form("numbers age 10\ncosts 0 2 7\nwords town\nword sea\nword isle of sea\nword seaside\nword air\n"
           "costs 0 3 9\nsecret ill a b c\n")
SEA, ISLE, SEASIDE, AIR = range(4)
FAR = 10 ** 18


def text_after(*calls):
    return told_text(last(*calls, text(0)))


class ReleaseText(unittest.TestCase):
    def test_the_bytes_themselves(self):
        given = last(AGE, sleeper(4, 1, 9), release(1, 1, 0, 1), text(0))
        self.assertEqual(given, [0, 10, 57, 32, 58, 32, 48, 32, 49, 32, 48, 10])

    def test_one_line_for_rows_that_look_alike(self):
        rows = [sleeper(w, s, 7) for w, s in enumerate((0, 2, 2, 0, 2))]
        self.assertEqual(text_after(AGE, *rows, release(5, 2, 0, 1)), "7 : 2 0 3\n")

    def test_numbers_are_in_the_order_of_their_bytes(self):
        cells = (9, 100, 10, 1, 99, 0, 1000000, 90, 101, 2)
        rows = [sleeper(w, w % 3, cell) for w, cell in enumerate(cells)]
        lines = text_after(AGE, *rows, release(1, 1, 0, 1)).split("\n")
        self.assertEqual([line.split(" ")[0] for line in lines[:-1]],
                         ["0", "1", "10", "100", "1000000", "101", "2", "9", "90", "99"])
        self.assertEqual(lines[:4], ["0 : 0 0 1", "1 : 1 0 0", "10 : 0 0 1", "100 : 0 1 0"])
        self.assertEqual(lines[-1], "")

    def test_numbers_at_a_step(self):
        rows = [sleeper(w, 0, cell) for w, cell in enumerate((95, 91, 108, 100, 19, 10, 3, 0))]
        self.assertEqual(text_after(AGE, *rows, release(2, 1, 0, 1)),
                         "0 : 2 0 0\n10 : 2 0 0\n100 : 2 0 0\n90 : 2 0 0\n")

    def test_words_are_in_the_order_of_their_bytes_not_of_their_numbers(self):
        rows = [sleeper(w, 0, 5, town) for w, town in enumerate((SEASIDE, SEA, AIR, ISLE, SEA))]
        self.assertEqual(text_after(TWO, *rows, release(1, 1, 0, 1, 1)),
                         "5 air : 1 0 0\n5 isle : 1 0 0\n5 sea : 2 0 0\n5 seaside : 1 0 0\n")

    def test_words_above(self):
        rows = [sleeper(w, w % 3, 5, town) for w, town in enumerate((SEASIDE, SEA, SEASIDE, ISLE))]
        self.assertEqual(text_after(TWO, *rows, release(2, 2, 0, 1, 1)), "5 sea : 1 1 0\n5 seaside : 1 0 1\n")

    def test_lines_are_ordered_by_the_first_cell_then_by_the_next(self):
        pairs = ((10, SEA), (1, SEASIDE), (9, AIR), (100, AIR), (10, AIR), (1, AIR), (9, SEA))
        rows = [sleeper(w, 0, *pair) for w, pair in enumerate(pairs)]
        lines = text_after(TWO, *rows, release(1, 1, 0, 1, 1)).split("\n")
        self.assertEqual([line.partition(" :")[0] for line in lines],
                         ["1 air", "1 seaside", "10 air", "10 sea", "100 air", "9 air", "9 sea", ""])

    def test_columns_at_their_last_level(self):
        rows = [sleeper(0, 0, 5, SEA), sleeper(1, 1, 50, AIR), sleeper(2, 1, 7, SEA)]
        for asked, expected in (
            ((0, 0), "* * : 1 2 0\n"), ((0, 1), "* air : 0 1 0\n* sea : 1 1 0\n"),
            ((1, 0), "5 * : 1 0 0\n50 * : 0 1 0\n7 * : 0 1 0\n"),
        ):
            self.assertEqual(text_after(TWO, *rows, release(1, 1, 0, *asked)), expected)

    def test_all_values_of_the_secret_in_their_order(self):
        names = "lkjihgfedcba"
        twelve = form("numbers n\ncosts 0 0\nsecret s " + " ".join(names) + "\n")
        rows = [sleeper(w, s, 3) for w, s in enumerate((11, 0, 0, 5) + (11,) * 9)]
        self.assertEqual(text_after(twelve, *rows, release(13, 3, 0, 1)), "3 : 2 0 0 0 0 1 0 0 0 0 0 10\n")

    def test_rows_that_are_left_out_are_not_in_it(self):
        rows = [sleeper(w, w % 2, cell) for w, cell in enumerate((11, 11, 50, 7, 7, 7))]
        out = [AGE, *rows, release(2, 2, 1, 1)]
        self.assertEqual(last(*out), [0, 0, 0, 2, 2, 5, 1])
        self.assertEqual(text_after(*out), "11 : 1 1 0\n7 : 1 2 0\n")

    def test_rows_that_came_or_changed_later_are_not_in_it(self):
        rows = [sleeper(w, w % 2, cell) for w, cell in enumerate((11, 11, 50))]
        out = [AGE, *rows, release(2, 2, 1, 1)]
        later = [change(2, 2, 11), sleeper(9, 2, 11), sleeper(1, 0, 11), sleeper(7, 1, 4)]
        self.assertEqual(ask(*out, *later)[-4:], [[0], [0], [-5], [0]])
        self.assertEqual(text_after(*out), "11 : 1 1 0\n")
        self.assertEqual(text_after(*out, *later), "11 : 1 1 0\n")

    def test_each_release_has_its_own_text(self):
        rows = [sleeper(w, w % 2, cell) for w, cell in enumerate((11, 11, 50))]
        out = [AGE, *rows, release(2, 2, 1, 1), sleeper(3, 0, 50), sleeper(4, 2, 59), release(2, 2, 0, 0), release(2, 2, 2, 1)]
        given = ask(*out, text(0), text(1), text(2), text(0))
        self.assertEqual([answer[0] for answer in given], [0] * len(given))
        self.assertEqual([told_text(answer) for answer in given[-4:]],
                         ["11 : 1 1 0\n", "* : 3 1 1\n", "10 : 1 1 0\n50 : 2 0 1\n", "11 : 1 1 0\n"])

    def test_no_such_release(self):
        rows = [sleeper(w, 0, 5) for w in range(2)]
        for q in (0, 1, -1, FAR, -FAR):
            self.assertEqual(last(AGE, *rows, text(q)), [-1])
        for count in (1, 2, 4):
            out = [AGE, *rows] + [release(1, 1, 0, 1)] * count
            self.assertEqual(told_text(last(*out, text(count - 1))), "5 : 2 0 0\n")
            self.assertEqual(told_text(last(*out, text(0))), "5 : 2 0 0\n")
            for q in (count, count + 1, -1, -count, FAR, -FAR):
                self.assertEqual(last(*out, text(q)), [-1])

    def test_a_new_form_has_no_texts_a_wrong_one_changes_nothing(self):
        out = [AGE, sleeper(0, 0, 5), release(1, 1, 0, 1)]
        self.assertEqual(last(*out, AGE, text(0)), [-1])
        self.assertEqual(text_after(*out, form("numbers\n")), "5 : 1 0 0\n")

    def test_a_text_changes_nothing(self):
        rows = [sleeper(w, w % 2, cell) for w, cell in enumerate((11, 11, 50))]
        out = [AGE, *rows, release(2, 2, 1, 1)]
        behind = [could(0), could(2), change(2, 2, 12), release(2, 2, 1, 1), text(1)]
        self.assertEqual(ask(*out, text(0), text(1), *behind)[-5:], ask(*out, *behind)[-5:])


class Printed(unittest.TestCase):
    numbers = "numbers age 5 10\ncosts 0 1 2 10000\n"
    words = "words town\nword sea\nword isle of sea\nword rock of isle\nword air\nword bay of sea\ncosts 0 0 7 9\n"
    secret = "secret ill yes no perhaps\n"

    def printed_of(self, data):
        return told_text(last(form(data), printed()))

    def test_the_bytes_themselves(self):
        self.assertEqual(last(form("secret s a b\nnumbers n\ncosts 0 1"), printed()),
                         [0, 33] + list(b"numbers n\ncosts 0 1\nsecret s a b\n"))

    def test_the_secret_ahead_between_and_behind(self):
        expected = self.numbers + self.words + self.secret
        for data in (self.secret + self.numbers + self.words, self.numbers + self.secret + self.words, expected):
            self.assertEqual(self.printed_of(data), expected)

    def test_columns_are_in_their_order(self):
        other = "numbers aa\ncosts 3 3\n"
        self.assertEqual(self.printed_of(self.words + self.secret + self.numbers + other),
                         self.words + self.numbers + other + self.secret)
        self.assertEqual(self.printed_of(other + self.secret + self.words + self.numbers),
                         other + self.words + self.numbers + self.secret)

    def test_steps(self):
        for steps, costs in (("", "0 0"), (" 2", "0 0 0"), (" 2 1000000", "0 0 10000 10000")):
            data = f"numbers age{steps}\ncosts {costs}\n" + self.secret
            self.assertEqual(self.printed_of(data), data)

    def test_blanks_and_lines_without_words(self):
        data = ("\n   \n  secret  ill yes   no  perhaps  \n\n words   town\n\n word  sea \n   \n  word isle  of   sea\n"
                "word rock of isle\n\n\nword air \nword bay   of sea\n \ncosts  0 0   7 9\n\n   numbers age   5 10\n \n"
                "costs 0  1 2 10000")
        self.assertEqual(self.printed_of(data), self.words + self.numbers + self.secret)

    def test_names_that_are_words_of_the_form(self):
        data = ("words words\nword word\nword of of word\nword costs of of\ncosts 0 0 0 0\nnumbers numbers\ncosts 1 2\n"
                "secret secret secret words of\n")
        self.assertEqual(self.printed_of(data), data)

    def test_the_greatest_form(self):
        names = [first + second for first in "abcde" for second in "uvwxyz"]
        data = "".join(f"words {title}\n" + "".join(f"word {name}\n" for name in names) + "costs 0 1\n" for title in "abcd")
        data += "secret s " + " ".join("abcdefghijkl") + "\n"
        self.assertLessEqual(len(data), 2000)
        self.assertEqual(self.printed_of(data), data)

    def test_read_again_and_printed_again_is_the_same(self):
        data = self.words + "  " + self.secret + "\n\n" + self.numbers
        once = last(form(data), printed())
        given = ask(form(data), form(told_text(once)), printed())
        self.assertEqual(given[0], given[1])
        self.assertEqual(given[2], once)

    def test_the_form_that_was_last_read(self):
        first, second = form(self.numbers + self.secret), form(self.words + self.secret)
        self.assertEqual(told_text(last(first, second, printed())), self.words + self.secret)
        self.assertEqual(told_text(last(first, form(self.words), printed())), self.numbers + self.secret)

    def test_printing_changes_nothing(self):
        rows = [sleeper(0, 0, 11), sleeper(1, 1, 12)]
        given = ask(AGE, *rows, printed(), release(2, 2, 0, 1), printed(), text(0), printed())
        self.assertEqual(given[-1], given[3])
        self.assertEqual(given[-3], given[3])
        self.assertEqual(told_text(given[-2]), "10 : 1 1 0\n")


if __name__ == "__main__":
    unittest.main()
