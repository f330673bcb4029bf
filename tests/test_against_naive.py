"""Many made-up lists of calls, answered a second time straight from the document's words and compared."""

import itertools
import random
import re
import unittest

from helper import alike, ask, change, form, plan, release, short, show, sleeper

NAME = re.compile(rb"[a-z]{1,10}\Z")
NUMBER = re.compile(rb"(0|[1-9][0-9]*)\Z")


def is_number(word, least, most):
    return bool(NUMBER.match(word)) and least <= int(word) <= most


def naive_line_is_right(words, columns, secret):
    """Says whether one line is right, and adds what it tells to columns and secret."""
    begun = columns[-1] if columns and "costs" not in columns[-1] else None
    names = [column["name"] for column in columns] + [name for name, values in secret]
    head, rest = words[0], words[1:]
    if head == b"costs" and begun and begun["above"] != {}:
        count = len(begun["steps"]) + 2 if begun["steps"] is not None else max(map(len, begun["above"].values())) + 2
        good = len(rest) == count and all(is_number(word, 0, 10000) for word in rest)
        begun["costs"] = [int(word) for word in rest] if good else None
        return good and begun["costs"] == sorted(begun["costs"])
    if head == b"word" and begun and begun["steps"] is None:
        above = begun["above"]
        if len(rest) not in (1, 3) or not NAME.match(rest[0]) or rest[0] in above or len(above) >= 30:
            return False
        if len(rest) == 1:
            above[rest[0]] = []
            return True
        if rest[1] != b"of" or rest[2] not in above or len(above[rest[2]]) > 1:
            return False
        above[rest[0]] = [rest[2]] + above[rest[2]]
        return True
    if begun or not rest or not NAME.match(rest[0]) or rest[0] in names:
        return False
    if head == b"secret":
        secret.append((rest[0], rest[1:]))
        values = rest[1:]
        return (len(secret) == 1 and 2 <= len(values) <= 12 and len(set(values)) == len(values)
                and all(NAME.match(value) for value in values))
    if head == b"words" and len(rest) == 1:
        columns.append({"name": rest[0], "steps": None, "above": {}})
        return len(columns) <= 4
    if head == b"numbers" and len(rest) <= 3 and all(is_number(word, 2, 1000000) for word in rest[1:]):
        steps = [int(word) for word in rest[1:]]
        columns.append({"name": rest[0], "steps": steps, "above": None})
        return len(columns) <= 4 and (len(steps) < 2 or (steps[1] > steps[0] and steps[1] % steps[0] == 0))
    return False


def naive_form(data):
    lines = data.split(b"\n")
    if lines[-1] == b"":
        lines.pop()
    columns, secret = [], []
    for number, line in enumerate(lines, 1):
        words = [word for word in line.split(b" ") if word]
        if words and not naive_line_is_right(words, columns, secret):
            return [1, number]
    if not columns or "costs" not in columns[-1] or not secret:
        return [1, len(lines) + 1]
    return [0, len(columns), len(secret[0][1])] + [len(column["costs"]) for column in columns]


def mixed_text(dice):
    """A text that is right, or nearly so: right lines of which some are changed, doubled, swapped or lost."""
    parts = []
    for name in dice.sample(["age", "town", "job", "z", "abcdefghij"], dice.choice([1, 2, 2, 3, 4, 5])):
        if dice.random() < 0.5:
            steps = dice.choice(["", "", " 10", " 5 10", " 2 1000000", " 4 6"])
            lines = [f"numbers {name}{steps}"]
            count = len(steps.split()) + 2
        else:
            depths = {}
            lines = [f"words {name}"]
            for number in range(dice.randint(1, 6)):
                word = "abcdefgh"[number]
                above = dice.choice([""] + [known for known in depths if depths[known] < 2 or dice.random() < 0.1])
                depths[word] = depths[above] + 1 if above else 0
                lines.append(f"word {word}" + (f" of {above}" if above else ""))
            count = max(depths.values()) + 2
        lines.append("costs " + " ".join(str(cost) for cost in sorted(dice.randint(0, 10000) for _ in range(count))))
        parts.append(lines)
    parts.append(["secret ill " + " ".join("abcdefghijklm"[:dice.choice([2, 3, 12, 12, 13, 1])])])
    dice.shuffle(parts)
    lines = [line for part in parts for line in part]
    for _ in range(dice.choice([0, 0, 1, 1, 2])):
        place = dice.randrange(len(lines))
        what = dice.randrange(6)
        if what == 0:
            lines[place:place + 1] = [lines[place]] * dice.choice([0, 2])
        elif what == 1:
            other = dice.randrange(len(lines))
            lines[place], lines[other] = lines[other], lines[place]
        elif what == 2:
            lines.insert(place, dice.choice(["", "  ", "costs 0 1", "word q", "word q of a", "of", "secret ill a b"]))
        elif lines[place]:
            words = lines[place].split(" ")
            spot = dice.randrange(len(words))
            words[spot:spot + 1] = dice.choice([[], [words[spot]] * 2, ["0" + words[spot]], ["", words[spot]],
                                                [words[spot] + "\t"], ["10001"], ["a"], ["age"], [words[spot].upper()]])
            lines[place] = " ".join(words)
    return "\n".join(lines) + dice.choice(["", "\n", "\n\n", " "])


class NaiveHouse:
    """A table and its releases as sets of sleepers, every question answered from its definition."""

    def __init__(self, columns, secrets):
        self.columns = columns
        self.secrets = secrets
        self.rows = {}
        self.releases = []

    def look(self, w, number, level):
        column, cell = self.columns[number], self.rows[w][1][number]
        if level == len(column["costs"]) - 1:
            return "*"
        if "steps" in column:
            width = ([1] + column["steps"])[level]
            return str(cell - cell % width)
        while level > 0 and column["above"][cell] is not None:
            cell = column["above"][cell]
            level -= 1
        return column["words"][cell]

    def looks(self, w, levels):
        return [self.look(w, number, level) for number, level in enumerate(levels)]

    def alike(self, w, levels):
        return {other for other in self.rows if self.looks(other, levels) == self.looks(w, levels)}

    def enough(self, sleepers, k, u):
        return len(sleepers) >= k and len({self.rows[w][0] for w in sleepers}) >= u

    def has_at(self, levels, k, u):
        return {w for w in self.rows if self.enough(self.alike(w, levels), k, u)}

    def safe(self, releases):
        for w in self.rows:
            having = [one for one in releases if w in one["has"]]
            hidden = set(self.rows)
            for one in having:
                hidden &= self.alike(w, one["levels"]) & one["has"]
            greatest_k = max([one["k"] for one in having], default=0)
            greatest_u = max([one["u"] for one in having], default=0)
            if not self.enough(hidden, greatest_k, greatest_u):
                return False
        return True

    def plan(self, k, u, m, asked, seen):
        found = []
        ranges = [range(len(column["costs"])) if mark else [len(column["costs"]) - 1]
                  for column, mark in zip(self.columns, asked)]
        for levels in itertools.product(*ranges):
            has = self.has_at(levels, k, u)
            left = len(self.rows) - len(has)
            if not has or left > m:
                continue
            one = {"levels": levels, "k": k, "u": u, "has": has, "left": left}
            one["cost"] = sum(column["costs"][level] for column, level in zip(self.columns, levels))
            if not self.safe(self.releases + [one]):
                seen["unsafe"] += 1
                continue
            found.append(one)
        found.sort(key=lambda one: (one["cost"], one["left"], one["levels"]))
        seen["none" if not found else "left out" if found[0]["left"] else "all"] += 1
        return found[0] if found else None


def told(one):
    return [one["cost"], *one["levels"], one["k"], one["u"], len(one["has"]), one["left"]]


def naive_answer(house, call, seen):
    number = call[0]
    if number in (1, 2):
        w, secret, cells = call[1], call[2], call[4:]
        if number == 1 and w in house.rows:
            return [-5]
        if number == 2 and w not in house.rows:
            return [-4]
        if number == 2 and any(w in one["has"] for one in house.releases):
            return [-5]
        house.rows[w] = (secret, cells)
        return [0]
    if number == 3:
        looks = [list(look.encode()) for look in house.looks(call[1], call[3:])]
        return [0] + [part for look in looks for part in [len(look)] + look]
    if number == 4:
        found = house.alike(call[1], call[3:])
        return [0, len(found), len({house.rows[w][0] for w in found})]
    if number == 5:
        has = house.has_at(call[4:], call[1], call[2])
        out = [w for w in house.rows if w not in has]
        return [0, len(out)] + out
    if number == 7 and len(house.releases) == 4:
        return [-6]
    best = house.plan(*call[1:4], call[5:], seen)
    if best is None:
        return [0, 0] if number == 6 else [-8]
    if number == 6:
        return [0, 1] + told(best)
    house.releases.append(best)
    return [0] + told(best)


def mixed_columns(dice):
    columns = []
    for name in dice.sample(["age", "town", "job", "size"], dice.choice([1, 2, 2, 3])):
        if dice.random() < 0.5:
            column = {"name": name, "steps": dice.choice([[], [4], [2, 4], [3, 9]])}
            count = len(column["steps"]) + 2
        else:
            column = {"name": name, "words": [], "above": []}
            depths = []
            for number in range(dice.randint(1, 7)):
                above = dice.choice([None] + [other for other in range(number) if depths[other] < 2])
                column["words"].append("abcdefgh"[number])
                column["above"].append(above)
                depths.append(0 if above is None else depths[above] + 1)
            count = max(depths) + 2
        column["costs"] = sorted(dice.randint(0, dice.choice([0, 3, 9])) for _ in range(count))
        columns.append(column)
    return columns


def text_of(columns, secrets):
    lines = []
    for column in columns:
        if "steps" in column:
            lines.append(" ".join(["numbers", column["name"]] + [str(step) for step in column["steps"]]))
        else:
            lines.append("words " + column["name"])
            for word, above in zip(column["words"], column["above"]):
                lines.append(f"word {word}" + ("" if above is None else f" of {column['words'][above]}"))
        lines.append("costs " + " ".join(str(cost) for cost in column["costs"]))
    lines.append("secret ill " + " ".join("abcdefgh"[:secrets]))
    return "\n".join(lines) + "\n"


def mixed_call(dice, house):
    def cells():
        return [dice.randint(0, 9) if "steps" in column else dice.randrange(len(column["words"]))
                for column in house.columns]
    levels = [dice.randrange(len(column["costs"])) for column in house.columns]
    asked = [dice.choice([0, 1, 1]) for _ in house.columns]
    k, u, m = dice.choice([1, 2, 2, 3, 4]), dice.choice([1, 1, 2, 2, 3]), dice.choice([0, 1, 2, 4, 40])
    w = dice.choice(list(house.rows)) if house.rows else None
    what = dice.randrange(12) if w is not None else 0
    if what < 4:
        return sleeper(dice.randint(0, 30), dice.randrange(house.secrets), *cells())
    if what == 4:
        return change(dice.randint(0, 30), dice.randrange(house.secrets), *cells())
    if what == 5:
        return show(w, *levels)
    if what == 6:
        return alike(w, *levels)
    if what == 7:
        return short(k, u, *levels)
    return dice.choice([plan, release])(k, u, m, *asked)


class AgainstNaive(unittest.TestCase):
    def test_forms(self):
        dice = random.Random(7)
        right = 0
        for _ in range(4000):
            text = mixed_text(dice)
            expected = naive_form(text.encode())
            right += expected[0] == 0
            self.assertEqual(ask(form(text)), [expected], text)
        self.assertTrue(800 < right < 3200, right)

    def test_calls(self):
        dice = random.Random(11)
        seen = {"unsafe": 0, "none": 0, "left out": 0, "all": 0}
        for _ in range(150):
            house = NaiveHouse(mixed_columns(dice), dice.choice([2, 3, 5]))
            calls = [form(text_of(house.columns, house.secrets))]
            expected = [[0, len(house.columns), house.secrets] + [len(column["costs"]) for column in house.columns]]
            plans = 0
            for _ in range(45):
                call = mixed_call(dice, house)
                plans += call[0] > 5
                if plans > 12:
                    break
                calls.append(call)
                expected.append(naive_answer(house, call, seen))
            self.assertEqual(ask(*calls), expected)
        self.assertTrue(all(count > 50 for count in seen.values()), seen)


if __name__ == "__main__":
    unittest.main()
