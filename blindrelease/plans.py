"""Releases, whom they hide a row among, and the plan for the next one."""

from blindrelease.table import are_enough
from blindrelease.table import classes_at


# looks: for each sleeper that the release has, how its row looks there. A row that a release has
# is never changed again, so this stays true.
class Release:
    def __init__(self, levels, k, u, looks, left_out):
        self.levels = levels
        self.k = k
        self.u = u
        self.looks = looks
        self.left_out = left_out

    def has(self, row):
        return row.sleeper in self.looks

    def told(self):
        return self.levels + [self.k, self.u, len(self.looks), self.left_out]


# Among whom some releases hide a row, and the greatest k and u of those that have it.
class Hiding:
    def __init__(self, row, among, k, u):
        self.row = row
        self.among = among
        self.k = k
        self.u = u

    def is_safe(self):
        return are_enough(self.among, self.k, self.u)


def release_at(form, rows, levels, k, u):
    looks_of_sleepers = {}
    for looks, alike in classes_at(form, rows, levels).items():
        if are_enough(alike, k, u):
            for row in alike:
                looks_of_sleepers[row.sleeper] = looks
    return Release(levels, k, u, looks_of_sleepers, len(rows) - len(looks_of_sleepers))


def hiding_with(hiding, release):
    if not release.has(hiding.row):
        return hiding
    looks = release.looks[hiding.row.sleeper]
    among = [row for row in hiding.among if release.looks.get(row.sleeper) == looks]
    return Hiding(hiding.row, among, max(hiding.k, release.k), max(hiding.u, release.u))


def hidings_of(rows, releases):
    hidings = [Hiding(row, rows, 0, 0) for row in rows]
    for release in releases:
        hidings = [hiding_with(hiding, release) for hiding in hidings]
    return hidings


def is_safe_with(hidings, release):
    for hiding in hidings:
        if not hiding_with(hiding, release).is_safe():
            return False
    return True


# In the order of the levels, compared from the first column on.
def levels_looked_at(form, asked):
    found = [[]]
    for levels_here, mark in zip(form.level_counts(), asked):
        least = 0 if mark == 1 else levels_here - 1
        longer = []
        for levels in found:
            for level in range(least, levels_here):
                longer.append(levels + [level])
        found = longer
    return found


# hidings: of the releases that went out. They are the same for all levels, so they are made once.
def may_go_out(release, m, hidings):
    if release.left_out > m or len(release.looks) == 0:
        return False
    return is_safe_with(hidings, release)


# None if no release may go out.
def best_release(form, rows, releases, numbers, asked):
    k = numbers[0]
    u = numbers[1]
    m = numbers[2]
    hidings = hidings_of(rows, releases)
    candidates = [release_at(form, rows, levels, k, u) for levels in levels_looked_at(form, asked)]
    return min(
        [release for release in candidates if may_go_out(release, m, hidings)],
        key=lambda release: (form.cost_at(release.levels), release.left_out, release.levels),
        default=None,
    )
