"""Many made-up lists of calls, answered a second time straight from the document's words and compared."""

import collections
import itertools
import random
import re
import unittest

from helper import (alike, ask, change, cost, could, counts, form, hidden, last, next_plan, plan, printed, release,
                    releases, short, show, sleeper, text, told_text)

NAME = re.compile(rb"[a-z]{1,10}\Z")
NUMBER = re.compile(rb"(0|[1-9][0-9]*)\Z")


def is_number(word, least, most):
    return bool(NUMBER.match(word)) and least <= int(word) <= most


def naive_line_is_right(words, columns, secret):
    """Says whether one line is right, and adds what it tells to columns and secret."""
    begun = columns[-1] if columns and "costs" not in columns[-1] else None
    names = [column["name"] for column in columns] + [name for name, values in secret]
    head, rest = words[0], words[1:]
    if head == b"costs" and begun and begun["above"] != {}:
        count = len(begun["steps"]) + 2 if begun["steps"] is not None else max(map(len, begun["above"].values())) + 2
        good = len(rest) == count and all(is_number(word, 0, 10000) for word in rest)
        begun["costs"] = [int(word) for word in rest] if good else None
        return good and begun["costs"] == sorted(begun["costs"])
    if head == b"word" and begun and begun["steps"] is None:
        above = begun["above"]
        if len(rest) not in (1, 3) or not NAME.match(rest[0]) or rest[0] in above or len(above) >= 30:
            return False
        if len(rest) == 1:
            above[rest[0]] = []
            return True
        if rest[1] != b"of" or rest[2] not in above or len(above[rest[2]]) > 1:
            return False
        above[rest[0]] = [rest[2]] + above[rest[2]]
        return True
    if begun or not rest or not NAME.match(rest[0]) or rest[0] in names:
        return False
    if head == b"secret":
        secret.append((rest[0], rest[1:]))
        values = rest[1:]
        return (len(secret) == 1 and 2 <= len(values) <= 12 and len(set(values)) == len(values)
                and all(NAME.match(value) for value in values))
    if head == b"words" and len(rest) == 1:
        columns.append({"name": rest[0], "steps": None, "above": {}})
        return len(columns) <= 4
    if head == b"numbers" and len(rest) <= 3 and all(is_number(word, 2, 1000000) for word in rest[1:]):
        steps = [int(word) for word in rest[1:]]
        columns.append({"name": rest[0], "steps": steps, "above": None})
        return len(columns) <= 4 and (len(steps) < 2 or (steps[1] > steps[0] and steps[1] % steps[0] == 0))
    return False


def naive_form(data):
    lines = data.split(b"\n")
    if lines[-1] == b"":
        lines.pop()
    columns, secret = [], []
    for number, line in enumerate(lines, 1):
        words = [word for word in line.split(b" ") if word]
        if words and not naive_line_is_right(words, columns, secret):
            return [1, number]
    if not columns or "costs" not in columns[-1] or not secret:
        return [1, len(lines) + 1]
    return [0, len(columns), len(secret[0][1])] + [len(column["costs"]) for column in columns]


def mixed_text(dice):
    """A text that is right, or nearly so: right lines of which some are changed, doubled, swapped or lost."""
    parts = []
    for name in dice.sample(["age", "town", "job", "z", "abcdefghij"], dice.choice([1, 2, 2, 3, 4, 5])):
        if dice.random() < 0.5:
            steps = dice.choice(["", "", " 10", " 5 10", " 2 1000000", " 4 6"])
            lines = [f"numbers {name}{steps}"]
            count = len(steps.split()) + 2
        else:
            depths = {}
            lines = [f"words {name}"]
            for number in range(dice.randint(1, 6)):
                word = "abcdefgh"[number]
                above = dice.choice([""] + [known for known in depths if depths[known] < 2 or dice.random() < 0.1])
                depths[word] = depths[above] + 1 if above else 0
                lines.append(f"word {word}" + (f" of {above}" if above else ""))
            count = max(depths.values()) + 2
        lines.append("costs " + " ".join(str(cost) for cost in sorted(dice.randint(0, 10000) for _ in range(count))))
        parts.append(lines)
    parts.append(["secret ill " + " ".join("abcdefghijklm"[:dice.choice([2, 3, 12, 12, 13, 1])])])
    dice.shuffle(parts)
    lines = [line for part in parts for line in part]
    for _ in range(dice.choice([0, 0, 1, 1, 2])):
        place = dice.randrange(len(lines))
        what = dice.randrange(6)
        if what == 0:
            lines[place:place + 1] = [lines[place]] * dice.choice([0, 2])
        elif what == 1:
            other = dice.randrange(len(lines))
            lines[place], lines[other] = lines[other], lines[place]
        elif what == 2:
            lines.insert(place, dice.choice(["", "  ", "costs 0 1", "word q", "word q of a", "of", "secret ill a b"]))
        elif lines[place]:
            words = lines[place].split(" ")
            spot = dice.randrange(len(words))
            words[spot:spot + 1] = dice.choice([[], [words[spot]] * 2, ["0" + words[spot]], ["", words[spot]],
                                                [words[spot] + "\t"], ["10001"], ["a"], ["age"], [words[spot].upper()]])
            lines[place] = " ".join(words)
    return "\n".join(lines) + dice.choice(["", "\n", "\n\n", " "])


class NaiveHouse:
    """A table and its releases as sets of sleepers, every question answered from its definition."""

    def __init__(self, columns, secrets):
        self.columns = columns
        self.secrets = secrets
        self.rows = {}
        self.releases = []
        self.known = {}

    def look(self, w, number, level):
        column, cell = self.columns[number], self.rows[w][1][number]
        if level == len(column["costs"]) - 1:
            return "*"
        if "steps" in column:
            width = ([1] + column["steps"])[level]
            return str(cell - cell % width)
        while level > 0 and column["above"][cell] is not None:
            cell = column["above"][cell]
            level -= 1
        return column["words"][cell]

    def looks(self, w, levels):
        known = (tuple(self.rows[w][1]), tuple(levels))
        if known not in self.known:
            self.known[known] = tuple(self.look(w, number, level) for number, level in enumerate(levels))
        return self.known[known]

    def alike(self, w, levels):
        looks = self.looks(w, levels)
        return {other for other in self.rows if self.looks(other, levels) == looks}

    def enough(self, sleepers, k, u):
        return len(sleepers) >= k and len({self.rows[w][0] for w in sleepers}) >= u

    def has_at(self, levels, k, u):
        return {w for w in self.rows if self.enough(self.alike(w, levels), k, u)}

    def hidden(self, w, releases):
        """Among whom the releases hide w, and their greatest k and u."""
        having = [one for one in releases if w in one["has"]]
        hidden = set(self.rows)
        for one in having:
            hidden &= self.alike(w, one["levels"]) & one["has"]
        return hidden, max([one["k"] for one in having], default=0), max([one["u"] for one in having], default=0)

    def safe(self, releases):
        return all(self.enough(*self.hidden(w, releases)) for w in self.rows)

    def levels_looked_at(self, asked):
        return list(itertools.product(*[range(len(column["costs"])) if mark else [len(column["costs"]) - 1]
                                        for column, mark in zip(self.columns, asked)]))

    def cost(self, levels):
        return sum(column["costs"][level] for column, level in zip(self.columns, levels))

    def that_may_go_out(self, k, u, m, asked, releases):
        found = []
        for levels in self.levels_looked_at(asked):
            has = self.has_at(levels, k, u)
            left = len(self.rows) - len(has)
            one = {"levels": levels, "k": k, "u": u, "has": has, "left": left, "cost": self.cost(levels)}
            if has and left <= m and self.safe(releases + [one]):
                found.append(one)
        return found

    def plan(self, k, u, m, asked, seen):
        found = self.that_may_go_out(k, u, m, asked, self.releases)
        found.sort(key=lambda one: (one["cost"], one["left"], one["levels"]))
        seen["none" if not found else "left out" if found[0]["left"] else "all"] += 1
        return found[0] if found else None

    def shares(self, sleepers):
        return [sum(self.rows[w][0] == value for w in sleepers) for value in range(self.secrets)]

    def text(self, one):
        lines = {}
        for w in one["has"]:
            cells = tuple(look.encode() for look in self.looks(w, one["levels"]))
            lines[cells] = [*cells, b":"] + [b"%d" % share for share in self.shares(self.alike(w, one["levels"]) & one["has"])]
        return b"".join(b" ".join(lines[cells]) + b"\n" for cells in sorted(lines))

    def refusal(self, call):
        """-1 to -6, or 0 if the call isn't refused; -8 aside."""
        number, rest = call[0], call[1:]
        tops = [len(column["costs"]) - 1 for column in self.columns]
        if number in (1, 2):
            bounds = [1000000 if "steps" in column else len(column["words"]) - 1 for column in self.columns]
            if not 0 <= rest[0] <= 999 or not 0 <= rest[1] < self.secrets or not within(rest[3:], bounds):
                return -1
        if number in (3, 4) and not within(rest[2:], tops) or number == 12 and not within(rest[1:], tops):
            return -1
        if number == 8 and rest[0] not in range(len(self.releases)):
            return -1
        if number in (5, 6, 7, 13) and not (1 <= rest[0] <= 40 and 1 <= rest[1] <= 12):
            return -1
        if number == 5 and not within(rest[3:], tops):
            return -1
        if number in (6, 7, 13) and not (0 <= rest[2] <= 40 and within(rest[4:], [1] * len(tops))):
            return -1
        if number in (2, 3, 4, 10, 11) and rest[0] not in self.rows:
            return -4
        if number == 1 and rest[0] in self.rows or number == 2 and any(rest[0] in one["has"] for one in self.releases):
            return -5
        if number == 1 and len(self.rows) == 40 or number == 7 and len(self.releases) == 4:
            return -6
        return 0


def within(numbers, bounds):
    return len(numbers) == len(bounds) and all(0 <= number <= bound for number, bound in zip(numbers, bounds))


def told(one):
    return [*one["levels"], one["k"], one["u"], len(one["has"]), one["left"]]


def naive_answer(house, call, seen):
    """The answer to any call but form."""
    if house is None:
        seen[-9] += 1
        return [-9]
    number = call[0]
    answer = [house.refusal(call)]
    if answer == [0]:
        answer = naive_later_answer(house, call, seen) if number > 5 else naive_early_answer(house, call)
    seen[(number, answer[0])] += 1
    return answer


def naive_early_answer(house, call):
    number = call[0]
    if number in (1, 2):
        house.rows[call[1]] = (call[2], call[4:])
        return [0]
    if number == 3:
        looks = [list(look.encode()) for look in house.looks(call[1], call[3:])]
        return [0] + [part for look in looks for part in [len(look)] + look]
    if number == 4:
        found = house.alike(call[1], call[3:])
        return [0, len(found), len({house.rows[w][0] for w in found})]
    has = house.has_at(call[4:], call[1], call[2])
    out = [w for w in house.rows if w not in has]
    return [0, len(out)] + out


def naive_later_answer(house, call, seen):
    number = call[0]
    if number in (6, 7):
        best = house.plan(*call[1:4], call[5:], seen)
        if best is None:
            return [0, 0] if number == 6 else [-8]
        if number == 7:
            house.releases.append(best)
        return [0] + [1] * (7 - number) + [best["cost"]] + told(best)
    if number == 8:
        data = house.text(house.releases[call[1]])
        seen["lines"] += data.count(b"\n") > 1
        return [0, len(data), *data]
    if number == 9:
        return [0, len(house.releases)] + [part for one in house.releases for part in told(one)]
    if number == 10:
        found, k, u = house.hidden(call[1], house.releases)
        seen["hidden"] += len(found) < len(house.rows)
        return [0, k, u, len(found), len({house.rows[w][0] for w in found})]
    if number == 11:
        return [0] + house.shares(house.hidden(call[1], house.releases)[0])
    if number == 12:
        return [0, house.cost(call[2:])]
    if number == 13:
        found = house.that_may_go_out(*call[1:4], call[5:], house.releases)
        alone = house.that_may_go_out(*call[1:4], call[5:], [])
        looked_at = house.levels_looked_at(call[5:])
        seen["unsafe"] += len(found) < len(alone) < len(looked_at)
        return [0, len(looked_at), len(found), len(alone)]
    if number == 14:
        data = text_of(house.columns, house.secrets).encode()
        return [0, len(data), *data]
    return [0, len(house.columns), house.secrets, len(house.rows), len(house.releases)]


def mixed_columns(dice, count=None):
    columns = []
    for name in dice.sample(["age", "town", "job", "size"], count or dice.choice([1, 2, 2, 3])):
        if dice.random() < 0.5:
            column = {"name": name, "steps": dice.choice([[], [4], [2, 4], [3, 9]])}
            count = len(column["steps"]) + 2
        else:
            column = {"name": name, "words": [], "above": []}
            depths = []
            for number in range(dice.randint(1, 7)):
                above = dice.choice([None] + [other for other in range(number) if depths[other] < 2])
                column["words"].append("abcdefgh"[number])
                column["above"].append(above)
                depths.append(0 if above is None else depths[above] + 1)
            count = max(depths) + 2
        column["costs"] = sorted(dice.randint(0, dice.choice([0, 3, 9])) for _ in range(count))
        columns.append(column)
    return columns


def text_of(columns, secrets):
    lines = []
    for column in columns:
        if "steps" in column:
            lines.append(" ".join(["numbers", column["name"]] + [str(step) for step in column["steps"]]))
        else:
            lines.append("words " + column["name"])
            for word, above in zip(column["words"], column["above"]):
                lines.append(f"word {word}" + ("" if above is None else f" of {column['words'][above]}"))
        lines.append("costs " + " ".join(str(cost) for cost in column["costs"]))
    lines.append("secret ill " + " ".join("abcdefgh"[:secrets]))
    return "\n".join(lines) + "\n"


def mixed_call(dice, house):
    """Any call but form: mostly one that isn't refused."""
    def cells():
        return [dice.randint(0, 9) if "steps" in column else dice.randrange(len(column["words"]))
                for column in house.columns]
    levels = [dice.randrange(len(column["costs"])) for column in house.columns]
    asked = [dice.choice([0, 1, 1]) for _ in house.columns]
    k, u, m = dice.choice([1, 2, 2, 3, 4]), dice.choice([1, 1, 2, 2, 3]), dice.choice([0, 1, 2, 4, 40])
    w = dice.choice(list(house.rows) + [dice.randint(-1, 60)])
    secret = dice.randrange(house.secrets)
    what = dice.randrange(23) if house.rows else 0
    if what < 7:
        return sleeper(dice.randint(0, 60), secret, *cells())
    single = [change(w, secret, *cells()), show(w, *levels), alike(w, *levels), short(k, u, *levels)]
    single += [plan(k, u, m, *asked), release(k, u, m, *asked), release(k, u, m, *asked), text(dice.randint(-1, 4))]
    single += [text(dice.randint(0, 2)), releases(), hidden(w), could(w), cost(*levels), next_plan(k, u, m, *asked)]
    single += [printed(), counts()]
    return single[what - 7]


def spoiled(dice, call):
    """The same call with one number of it made another, or with its list one longer or shorter."""
    lists = {1: 3, 2: 3, 3: 2, 4: 2, 5: 3, 6: 4, 7: 4, 12: 1, 13: 4}
    call = list(call)
    count_at = lists.get(call[0], len(call))
    places = [place for place in range(1, len(call)) if place != count_at]
    if call[0] in lists and dice.random() < 0.3:
        call[count_at] += 1
        call.append(dice.choice([0, 1]))
        if dice.random() < 0.5 and call[count_at] > 1:
            call[count_at] -= 2
            call[-2:] = []
    elif places:
        call[dice.choice(places)] = dice.choice([-1, 0, 1, 4, 12, 13, 40, 41, 999, 1000, 10 ** 18, -10 ** 18])
    return call


def mixed_house(dice, column_count=None):
    return NaiveHouse(mixed_columns(dice, column_count), dice.choice([2, 3, 5]))


def mixed_form(dice, house):
    """The house's form with a few blanks and lines without words more, and perhaps with the secret elsewhere."""
    lines = text_of(house.columns, house.secrets).split("\n")[:-1]
    if dice.random() < 0.5:
        secret = lines.pop()
        ends = [0] + [place + 1 for place, line in enumerate(lines) if line.startswith("costs")]
        lines.insert(dice.choice(ends), secret)
    for place in reversed(range(len(lines))):
        if dice.random() < 0.2:
            lines.insert(place, " " * dice.randrange(3))
        if dice.random() < 0.2:
            lines[place] = lines[place].replace(" ", "  ") + " "
    return form("\n".join(lines) + dice.choice(["", "\n", "\n  \n"]))


def mixed_list(dice, seen, length, house):
    """A list of calls and its answers; house: what the first form tells."""
    waiting, house = house, None
    calls, expected, plans = [], [], 0
    while len(calls) < length:
        if house is None and dice.random() < 0.7 or dice.random() < 0.01:
            if dice.random() < 0.2:
                calls.append(form(mixed_text(dice) + "\nsecret secret secret"))
                expected.append(naive_form(bytes(calls[-1][2:])))
                continue
            house, waiting = waiting or mixed_house(dice), None
            calls.append(mixed_form(dice, house))
            expected.append([0, len(house.columns), house.secrets] + [len(column["costs"]) for column in house.columns])
            continue
        call = mixed_call(dice, house or waiting or mixed_house(dice))
        if dice.random() < 0.1:
            call = spoiled(dice, call)
        plans += call[0] in (6, 7, 13)
        if call[0] in (6, 7, 13) and plans > 12:
            continue
        calls.append(call)
        expected.append(naive_answer(house, call, seen))
    return calls, expected


class AgainstNaive(unittest.TestCase):
    def test_forms(self):
        dice = random.Random(7)
        right = 0
        for _ in range(4000):
            data = mixed_text(dice)
            expected = naive_form(data.encode())
            right += expected[0] == 0
            self.assertEqual(ask(form(data)), [expected], data)
        self.assertTrue(800 < right < 3200, right)

    def test_printed_forms_are_read_again(self):
        dice = random.Random(5)
        for _ in range(300):
            house = mixed_house(dice)
            once = last(mixed_form(dice, house), printed())
            self.assertEqual(told_text(once), text_of(house.columns, house.secrets))
            self.assertEqual(last(form(told_text(once)), printed()), once)

    def test_calls(self):
        dice = random.Random(11)
        seen = collections.Counter()
        for _ in range(150):
            calls, expected = mixed_list(dice, seen, 70, mixed_house(dice))
            self.assertEqual(ask(*calls), expected)
        for what in [-9, "none", "left out", "all", "lines", "hidden", "unsafe", (1, -5), (2, -5), (7, -8)]:
            self.assertGreater(seen[what], 50, what)
        self.assertGreater(seen[(7, -6)], 10)
        for number in range(1, 16):
            self.assertGreater(seen[(number, 0)], 100, number)
        for number in (1, 2, 3, 4, 5, 6, 7, 8, 12, 13):
            self.assertGreater(seen[(number, -1)], 5, number)
        for number in (2, 3, 4, 10, 11):
            self.assertGreater(seen[(number, -4)], 20, number)

    def test_the_longest_lists(self):
        dice = random.Random(3)
        for _ in range(4):
            seen = collections.Counter()
            house = mixed_house(dice, 4)
            calls = [form(text_of(house.columns, house.secrets))]
            expected = [[0, 4, house.secrets] + [len(column["costs"]) for column in house.columns]]
            plans = 0
            while len(calls) < 150:
                call = mixed_call(dice, house)
                if (len(house.rows) < 40 and call[0] != 1) or (call[0] in (6, 7, 13) and plans == 12):
                    continue
                plans += call[0] in (6, 7, 13)
                calls.append(call)
                expected.append(naive_answer(house, call, seen))
            self.assertEqual((len(house.rows), plans), (40, 12))
            self.assertEqual(ask(*calls), expected)


if __name__ == "__main__":
    unittest.main()
