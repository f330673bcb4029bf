"""Releases, whom they hide a row among, and the plan for the next one."""

from blindrelease.table import are_enough
from blindrelease.table import classes_at


# looks: for each sleeper that the release has, how its row looks there. A row that a release has
# is never changed again, so this stays true.
class Release:
    def __init__(self, levels, k, u, looks, left_out):
        self.levels = levels
        self.k = k
        self.u = u
        self.looks = looks
        self.left_out = left_out

    def has(self, row):
        return row.sleeper in self.looks

    def told(self):
        return self.levels + [self.k, self.u, len(self.looks), self.left_out]


# Among whom some releases hide a row, and the greatest k and u of those that have it.
class Hiding:
    def __init__(self, row, among, k, u):
        self.row = row
        self.among = among
        self.k = k
        self.u = u

    def is_safe(self):
        return are_enough(self.among, self.k, self.u)


def release_at(form, rows, levels, k, u):
    looks_of_sleepers = {}
    for looks, alike in classes_at(form, rows, levels).items():
        if are_enough(alike, k, u):
            for row in alike:
                looks_of_sleepers[row.sleeper] = looks
    return Release(levels, k, u, looks_of_sleepers, len(rows) - len(looks_of_sleepers))


def hiding_with(hiding, release):
    if not release.has(hiding.row):
        return hiding
    looks = release.looks[hiding.row.sleeper]
    among = [row for row in hiding.among if release.looks.get(row.sleeper) == looks]
    return Hiding(hiding.row, among, max(hiding.k, release.k), max(hiding.u, release.u))


def hiding_of(row, rows, releases):
    hiding = Hiding(row, rows, 0, 0)
    for release in releases:
        hiding = hiding_with(hiding, release)
    return hiding


def hidings_of(rows, releases):
    return [hiding_of(row, rows, releases) for row in rows]


def is_safe_with(hidings, release):
    for hiding in hidings:
        if not hiding_with(hiding, release).is_safe():
            return False
    return True


# In the order of the levels, compared from the first column on.
def levels_looked_at(form, asked):
    found = [[]]
    for levels_here, mark in zip(form.level_counts(), asked):
        least = 0 if mark == 1 else levels_here - 1
        longer = []
        for levels in found:
            for level in range(least, levels_here):
                longer.append(levels + [level])
        found = longer
    return found


def releases_looked_at(form, rows, k, u, asked):
    return [release_at(form, rows, levels, k, u) for levels in levels_looked_at(form, asked)]


# Those that might go out if none had: a release by itself hides each row that it has among the row's
# class, which is enough, so it is always safe.
def safe_alone(looked_at, m):
    return [release for release in looked_at if release.left_out <= m and len(release.looks) > 0]


# The hidings of what went out are the same for all levels, so they are made once.
def that_may_go_out(looked_at, m, rows, releases):
    hidings = hidings_of(rows, releases)
    return [release for release in safe_alone(looked_at, m) if is_safe_with(hidings, release)]


# None if no release may go out.
def best_release(form, rows, releases, numbers, asked):
    looked_at = releases_looked_at(form, rows, numbers[0], numbers[1], asked)
    return min(
        that_may_go_out(looked_at, numbers[2], rows, releases),
        key=lambda release: (form.cost_at(release.levels), release.left_out, release.levels),
        default=None,
    )


# How many are looked at, how many of these may go out, and how many might if none had gone out.
def next_counts(form, rows, releases, numbers, asked):
    looked_at = releases_looked_at(form, rows, numbers[0], numbers[1], asked)
    m = numbers[2]
    return [len(looked_at), len(that_may_go_out(looked_at, m, rows, releases)), len(safe_alone(looked_at, m))]
