"""Calls 1 to 5: sleeper, change, show, alike, short."""

import unittest

from helper import alike, ask, change, form, last, looks, release, short, show, sleeper

FORM = form(
    "numbers age 10 100\ncosts 0 1 2 3\n"
    "words town\nword land\nword city of land\nword road of city\nword sea\nword isle of sea\ncosts 0 1 2 3\n"
    "secret ill a b c\n"
)
LAND, CITY, ROAD, SEA, ISLE = range(5)
FAR = 10 ** 18


class Sleeper(unittest.TestCase):
    def test_numbers_at_their_bounds(self):
        for call in (sleeper(0, 0, 0, 0), sleeper(999, 2, 1000000, 4)):
            self.assertEqual(last(FORM, call), [0])

    def test_numbers_beyond_their_bounds(self):
        for call in (
            sleeper(-1, 0, 0, 0), sleeper(1000, 0, 0, 0), sleeper(FAR, 0, 0, 0), sleeper(-FAR, 0, 0, 0),
            sleeper(0, -1, 0, 0), sleeper(0, 3, 0, 0), sleeper(0, FAR, 0, 0),
            sleeper(0, 0, -1, 0), sleeper(0, 0, 1000001, 0), sleeper(0, 0, 0, -1), sleeper(0, 0, 0, 5),
            sleeper(0, 0, -FAR, 0), sleeper(0, 0, 0, FAR),
            sleeper(0, 0), sleeper(0, 0, 0), sleeper(0, 0, 0, 0, 0), sleeper(0, 0, *[0] * 10),
        ):
            self.assertEqual(ask(FORM, call, show(0, 0, 0))[1:], [[-1], [-4]])

    def test_sleeper_that_is_there(self):
        self.assertEqual(ask(FORM, sleeper(7, 0, 5, SEA), sleeper(7, 1, 6, LAND), sleeper(8, 1, 5, SEA))[1:],
                         [[0], [-5], [0]])
        answer = last(FORM, sleeper(7, 0, 5, SEA), sleeper(7, 1, 6, LAND), show(7, 0, 0))
        self.assertEqual(looks(answer), ["5", "sea"])

    def test_forty_sleepers(self):
        forty = [sleeper(w * 20, 0, 0, 0) for w in range(40)]
        self.assertEqual(ask(FORM, *forty)[1:], [[0]] * 40)
        self.assertEqual(ask(FORM, *forty, sleeper(1, 0, 0, 0), show(1, 0, 0), alike(0, 0, 0))[-3:],
                         [[-6], [-4], [0, 40, 1]])

    def test_order_of_refusals(self):
        forty = [sleeper(w, 0, 0, 0) for w in range(40)]
        self.assertEqual(last(FORM, *forty, sleeper(5, 0, 0, 0)), [-5])
        self.assertEqual(last(FORM, *forty, sleeper(5, 3, 0, 0)), [-1])
        self.assertEqual(last(FORM, *forty, sleeper(50, 0, 0)), [-1])
        self.assertEqual(last(FORM, sleeper(5, 0, 0, 0), sleeper(5, 0, 0, 9)), [-1])
        self.assertEqual(last(sleeper(-1, 0, 0, 0)), [-9])


class Change(unittest.TestCase):
    def test_changes_cells_and_secret(self):
        given = ask(FORM, sleeper(1, 0, 5, SEA), sleeper(2, 0, 6, LAND), change(1, 2, 6, LAND), show(1, 0, 0), alike(2, 0, 0))
        self.assertEqual(given[3], [0])
        self.assertEqual(looks(given[4]), ["6", "land"])
        self.assertEqual(given[5], [0, 2, 2])

    def test_keeps_the_place_in_the_order(self):
        self.assertEqual(last(FORM, sleeper(2, 0, 1, 0), sleeper(1, 0, 2, 0), change(2, 0, 3, 0), short(2, 1, 0, 0)),
                         [0, 2, 2, 1])

    def test_numbers_beyond_their_bounds(self):
        for call in (
            change(-1, 0, 0, 0), change(1000, 0, 0, 0), change(1, -1, 0, 0), change(1, 3, 0, 0), change(1, 0, -1, 0),
            change(1, 0, 1000001, 0), change(1, 0, 0, -1), change(1, 0, 0, 5), change(1, 0), change(1, 0, 0),
            change(1, 0, 0, 0, 0), change(FAR, 0, 0, 0),
        ):
            given = ask(FORM, sleeper(1, 0, 5, SEA), call, show(1, 0, 0))
            self.assertEqual(given[2], [-1])
            self.assertEqual(looks(given[3]), ["5", "sea"])

    def test_no_such_sleeper(self):
        self.assertEqual(ask(FORM, sleeper(1, 0, 0, 0), change(2, 0, 0, 0), show(2, 0, 0))[2:], [[-4], [-4]])
        self.assertEqual(last(FORM, change(999, 2, 1000000, 4)), [-4])
        self.assertEqual(last(FORM, change(2, 0, 0, 5)), [-1])
        self.assertEqual(last(change(2, 0, 0, 0)), [-9])

    def test_row_that_a_release_has_and_one_that_it_leaves_out(self):
        begun = [FORM, sleeper(1, 0, 11, SEA), sleeper(2, 1, 11, SEA), sleeper(3, 2, 500, LAND), release(2, 2, 1, 1, 1)]
        self.assertEqual(last(*begun), [0, 0, 0, 0, 2, 2, 2, 1])
        given = ask(*begun, change(1, 1, 12, LAND), show(1, 0, 0), change(3, 0, 12, LAND), show(3, 0, 0))[-4:]
        self.assertEqual(given[0], [-5])
        self.assertEqual(looks(given[1]), ["11", "sea"])
        self.assertEqual(given[2], [0])
        self.assertEqual(looks(given[3]), ["12", "land"])

    def test_row_that_only_an_earlier_or_only_a_later_release_has(self):
        begun = [FORM, sleeper(1, 0, 11, SEA), sleeper(2, 1, 11, SEA), sleeper(3, 2, 500, LAND), release(2, 2, 1, 1, 1)]
        begun += [sleeper(4, 0, 500, LAND), sleeper(5, 0, 500, LAND), release(3, 2, 2, 1, 1)]
        self.assertEqual(last(*begun), [0, 0, 0, 0, 3, 2, 3, 2])
        refused = ask(*begun, *[change(w, 0, 0, 0) for w in (1, 2, 3, 4, 5, 6)])[-6:]
        self.assertEqual(refused, [[-5]] * 5 + [[-4]])

    def test_out_of_range_counts_ahead_of_a_release_that_has_it(self):
        begun = [FORM, sleeper(1, 0, 11, SEA), release(1, 1, 0, 1, 1)]
        self.assertEqual(last(*begun, change(1, 0, 11, 5)), [-1])
        self.assertEqual(last(*begun, change(1, 0, 11, SEA)), [-5])


class Show(unittest.TestCase):
    def looks_of(self, cells, levels):
        return looks(last(FORM, sleeper(3, 0, *cells), show(3, *levels)))

    def test_the_bytes_themselves(self):
        self.assertEqual(last(FORM, sleeper(3, 0, 47, SEA), show(3, 1, 0)), [0, 2, 52, 48, 3, 115, 101, 97])
        self.assertEqual(last(FORM, sleeper(3, 0, 47, SEA), show(3, 3, 3)), [0, 1, 42, 1, 42])

    def test_numbers(self):
        for cell, expected in (
            (0, ["0", "0", "0", "*"]), (9, ["9", "0", "0", "*"]), (10, ["10", "10", "0", "*"]),
            (199, ["199", "190", "100", "*"]), (200, ["200", "200", "200", "*"]),
            (999999, ["999999", "999990", "999900", "*"]), (1000000, ["1000000", "1000000", "1000000", "*"]),
        ):
            self.assertEqual([self.looks_of((cell, LAND), (level, 0))[0] for level in range(4)], expected)

    def test_words(self):
        for cell, expected in (
            (LAND, ["land", "land", "land", "*"]), (CITY, ["city", "land", "land", "*"]),
            (ROAD, ["road", "city", "land", "*"]), (SEA, ["sea", "sea", "sea", "*"]),
            (ISLE, ["isle", "sea", "sea", "*"]),
        ):
            self.assertEqual([self.looks_of((0, cell), (0, level))[1] for level in range(4)], expected)

    def test_columns_without_steps_and_words_above(self):
        flat = form("numbers n\ncosts 0 0\nwords w\nword x\nword y\ncosts 0 0\nsecret s a b\n")
        self.assertEqual(looks(last(flat, sleeper(1, 0, 77, 1), show(1, 0, 0))), ["77", "y"])
        self.assertEqual(looks(last(flat, sleeper(1, 0, 77, 1), show(1, 1, 1))), ["*", "*"])

    def test_step_of_a_million(self):
        wide = form("numbers n 1000000\ncosts 0 0 0\nsecret s a b\n")
        self.assertEqual(looks(last(wide, sleeper(1, 0, 999999), show(1, 1))), ["0"])
        self.assertEqual(looks(last(wide, sleeper(1, 0, 1000000), show(1, 1))), ["1000000"])

    def test_refusals(self):
        begun = [FORM, sleeper(3, 0, 47, SEA)]
        for levels in ((), (0,), (0, 0, 0), (4, 0), (0, 4), (-1, 0), (0, -1), (FAR, 0), (0, -FAR), (0,) * 10):
            for w in (3, 4, -1, 1000):
                self.assertEqual(last(*begun, show(w, *levels)), [-1])
                self.assertEqual(last(*begun, alike(w, *levels)), [-1])
        for w in (4, 0, 999, -1, 1000, FAR, -FAR):
            self.assertEqual(last(*begun, show(w, 0, 0)), [-4])
            self.assertEqual(last(*begun, alike(w, 0, 0)), [-4])
        self.assertEqual(ask(show(-1), alike(-1), short(0, 0)), [[-9]] * 3)


class AlikeAndShort(unittest.TestCase):
    def setUp(self):
        self.begun = [
            FORM,
            sleeper(30, 0, 11, CITY), sleeper(10, 1, 12, ROAD), sleeper(20, 0, 19, CITY), sleeper(40, 0, 20, CITY),
            sleeper(5, 2, 111, SEA),
        ]

    def test_alike(self):
        for w, levels, expected in (
            (30, (0, 0), [0, 1, 1]), (30, (1, 0), [0, 2, 1]), (30, (1, 1), [0, 2, 1]), (30, (1, 2), [0, 3, 2]),
            (30, (2, 0), [0, 3, 1]), (30, (2, 2), [0, 4, 2]), (30, (2, 3), [0, 4, 2]), (30, (3, 3), [0, 5, 3]),
            (30, (3, 0), [0, 3, 1]), (30, (0, 3), [0, 1, 1]), (10, (1, 0), [0, 1, 1]), (10, (1, 1), [0, 1, 1]),
            (10, (1, 2), [0, 3, 2]), (10, (1, 3), [0, 3, 2]), (40, (1, 3), [0, 1, 1]), (5, (2, 3), [0, 1, 1]),
        ):
            with self.subTest(w=w, levels=levels):
                self.assertEqual(last(*self.begun, alike(w, *levels)), expected)

    def test_short_in_the_order_in_which_the_rows_came(self):
        for k, u, levels, expected in (
            (1, 1, (0, 0), []), (2, 1, (0, 0), [30, 10, 20, 40, 5]), (2, 1, (1, 0), [10, 40, 5]),
            (2, 2, (1, 0), [30, 10, 20, 40, 5]), (2, 2, (1, 2), [40, 5]), (3, 2, (1, 2), [40, 5]),
            (4, 2, (1, 2), [30, 10, 20, 40, 5]), (3, 3, (1, 2), [30, 10, 20, 40, 5]), (4, 2, (2, 2), [5]),
            (5, 3, (3, 3), []), (6, 3, (3, 3), [30, 10, 20, 40, 5]), (5, 4, (3, 3), [30, 10, 20, 40, 5]),
            (1, 2, (2, 2), [5]),
        ):
            with self.subTest(k=k, u=u, levels=levels):
                self.assertEqual(last(*self.begun, short(k, u, *levels)), [0, len(expected)] + expected)

    def test_short_of_no_rows(self):
        self.assertEqual(last(FORM, short(40, 12, 0, 0)), [0, 0])

    def test_short_at_the_greatest_k_and_u(self):
        twelve = form("numbers n\ncosts 0 0\nsecret s a b c d e f g h i j k l\n")
        forty = [sleeper(w, w % 12, 5) for w in range(40)]
        self.assertEqual(last(twelve, *forty, short(40, 12, 0)), [0, 0])
        self.assertEqual(last(twelve, *forty[:39], short(40, 12, 0)), [0, 39] + list(range(39)))
        self.assertEqual(last(twelve, *forty, change(11, 0, 5), change(23, 0, 5), change(35, 0, 5), short(40, 12, 0)),
                         [0, 40] + list(range(40)))

    def test_short_refusals(self):
        for call in (
            short(0, 1, 0, 0), short(41, 1, 0, 0), short(1, 0, 0, 0), short(1, 13, 0, 0), short(-FAR, 1, 0, 0),
            short(1, FAR, 0, 0), short(1, 1), short(1, 1, 0), short(1, 1, 0, 0, 0), short(1, 1, 4, 0),
            short(1, 1, 0, 4), short(1, 1, -1, 0), short(1, 1, 0, -1),
        ):
            self.assertEqual(last(*self.begun, call), [-1])

    def test_a_change_moves_a_row_to_another_class(self):
        self.assertEqual(last(*self.begun, change(5, 2, 15, CITY), alike(30, 1, 0)), [0, 3, 2])
        self.assertEqual(last(*self.begun, change(20, 0, 25, CITY), alike(40, 1, 0)), [0, 2, 1])


if __name__ == "__main__":
    unittest.main()
