"""Builds calls, asks them in one list, and cuts the list of answers into one list for each call."""

from blindrelease.house import answers


def form(text):
    data = list(text.encode("latin-1"))
    return [0, len(data)] + data


def sleeper(w, s, *cells):
    return [1, w, s, len(cells)] + list(cells)


def change(w, s, *cells):
    return [2, w, s, len(cells)] + list(cells)


def show(w, *levels):
    return [3, w, len(levels)] + list(levels)


def alike(w, *levels):
    return [4, w, len(levels)] + list(levels)


def short(k, u, *levels):
    return [5, k, u, len(levels)] + list(levels)


def plan(k, u, m, *columns):
    return [6, k, u, m, len(columns)] + list(columns)


def release(k, u, m, *columns):
    return [7, k, u, m, len(columns)] + list(columns)


def text(q):
    return [8, q]


def releases():
    return [9]


def hidden(w):
    return [10, w]


def could(w):
    return [11, w]


def cost(*levels):
    return [12, len(levels)] + list(levels)


def next_plan(k, u, m, *columns):
    return [13, k, u, m, len(columns)] + list(columns)


def printed():
    return [14]


def counts():
    return [15]


def joined(calls):
    return [number for call in calls for number in call]


def cut(given):
    parts = []
    place = 0
    while place < len(given):
        count = given[place]
        part = given[place + 1:place + 1 + count]
        if count < 1 or len(part) != count:
            raise AssertionError(f"no answer of {count} numbers at {place}")
        parts.append(part)
        place += 1 + count
    return parts


def ask(*calls):
    handed = joined(calls)
    before = list(handed)
    given = answers(handed)
    if handed != before:
        raise AssertionError("what was handed in is changed")
    if not all(type(number) is int for number in given):
        raise AssertionError("an answer holds something else than whole numbers")
    parts = cut(given)
    if len(parts) != len(calls):
        raise AssertionError(f"{len(calls)} calls, {len(parts)} answers")
    return parts


def last(*calls):
    return ask(*calls)[-1]


def looks(answer):
    found = []
    place = 1
    while place < len(answer):
        count = answer[place]
        found.append(bytes(answer[place + 1:place + 1 + count]).decode("ascii"))
        place += 1 + count
    return found


def told_text(answer):
    if answer[0] != 0 or answer[1] != len(answer) - 2:
        raise AssertionError(f"no 0 and right count of bytes at the beginning of {answer}")
    return bytes(answer[2:]).decode("ascii")
