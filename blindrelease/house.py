"""The entrance: a list of calls comes in, the list of their answers goes out."""

from blindrelease.plans import best_release
from blindrelease.plans import hiding_of
from blindrelease.plans import next_counts
from blindrelease.plans import release_at
from blindrelease.reading import FormReader
from blindrelease.signs import bytes_of
from blindrelease.table import Row
from blindrelease.table import class_of
from blindrelease.table import secret_counts
from blindrelease.table import unlike_secrets
from blindrelease.writing import form_text
from blindrelease.writing import release_text

NO_FORM = -9
NOT_AS_TOLD = -1
NO_SLEEPER = -4
TAKEN = -5
FULL = -6
NO_PLAN = -8

GREATEST_SLEEPER = 999
MOST_SLEEPERS = 40
MOST_RELEASES = 4
GREATEST_K = 40
GREATEST_U = 12
GREATEST_M = 40

FORM = 0
# For each call, by its number: how many whole numbers it has, and how many lists behind them.
NUMBER_COUNTS = (0, 2, 2, 1, 1, 2, 3, 3, 1, 0, 1, 1, 0, 3, 0, 0)
LIST_COUNTS = (1, 1, 1, 1, 1, 1, 1, 1, 0, 0, 0, 0, 1, 1, 0, 0)


# rows: by their sleepers' numbers, in the order in which they came.
class House:
    def __init__(self):
        self.form = None
        self.rows = {}
        self.releases = []

    def begin(self, form):
        self.form = form
        self.rows = {}
        self.releases = []

    def rows_in_order(self):
        return list(self.rows.values())

    def has_released(self, row):
        return any([release.has(row) for release in self.releases])

    def hiding(self, w):
        return hiding_of(self.rows[w], self.rows_in_order(), self.releases)


def is_row_as_told(form, w, s, cells):
    return 0 <= w <= GREATEST_SLEEPER and form.takes_secret(s) and form.takes_cells(cells)


def are_k_and_u_as_told(k, u):
    return 1 <= k <= GREATEST_K and 1 <= u <= GREATEST_U


def is_plan_as_told(form, numbers, asked):
    return are_k_and_u_as_told(numbers[0], numbers[1]) and 0 <= numbers[2] <= GREATEST_M and form.takes_asked(asked)


def counted_bytes(text):
    return [len(text)] + bytes_of(text)


def answer_form(house, numbers, data):
    reader = FormReader()
    wrong = reader.read(data)
    if wrong > 0:
        return [1, wrong]
    house.begin(reader.made_form())
    form = house.form
    return [0, len(form.columns), len(form.secret_values)] + form.level_counts()


def answer_sleeper(house, numbers, cells):
    w = numbers[0]
    s = numbers[1]
    if not is_row_as_told(house.form, w, s, cells):
        return [NOT_AS_TOLD]
    if w in house.rows:
        return [TAKEN]
    if len(house.rows) == MOST_SLEEPERS:
        return [FULL]
    house.rows[w] = Row(w, s, cells)
    return [0]


def answer_change(house, numbers, cells):
    w = numbers[0]
    s = numbers[1]
    if not is_row_as_told(house.form, w, s, cells):
        return [NOT_AS_TOLD]
    if w not in house.rows:
        return [NO_SLEEPER]
    if house.has_released(house.rows[w]):
        return [TAKEN]
    house.rows[w] = Row(w, s, cells)
    return [0]


def answer_show(house, numbers, levels):
    w = numbers[0]
    if not house.form.takes_levels(levels):
        return [NOT_AS_TOLD]
    if w not in house.rows:
        return [NO_SLEEPER]
    answer = [0]
    for look in house.form.looks_of(house.rows[w].cells, levels):
        answer.extend(counted_bytes(look))
    return answer


def answer_alike(house, numbers, levels):
    w = numbers[0]
    if not house.form.takes_levels(levels):
        return [NOT_AS_TOLD]
    if w not in house.rows:
        return [NO_SLEEPER]
    alike = class_of(house.form, house.rows_in_order(), house.rows[w], levels)
    return [0, len(alike), unlike_secrets(alike)]


def answer_short(house, numbers, levels):
    k = numbers[0]
    u = numbers[1]
    if not are_k_and_u_as_told(k, u) or not house.form.takes_levels(levels):
        return [NOT_AS_TOLD]
    rows = house.rows_in_order()
    release = release_at(house.form, rows, levels, k, u)
    sleepers = [row.sleeper for row in rows if not release.has(row)]
    return [0, len(sleepers)] + sleepers


def answer_plan(house, numbers, asked):
    if not is_plan_as_told(house.form, numbers, asked):
        return [NOT_AS_TOLD]
    release = best_release(house.form, house.rows_in_order(), house.releases, numbers, asked)
    if release is None:
        return [0, 0]
    return [0, 1, house.form.cost_at(release.levels)] + release.told()


def answer_release(house, numbers, asked):
    if not is_plan_as_told(house.form, numbers, asked):
        return [NOT_AS_TOLD]
    if len(house.releases) == MOST_RELEASES:
        return [FULL]
    release = best_release(house.form, house.rows_in_order(), house.releases, numbers, asked)
    if release is None:
        return [NO_PLAN]
    house.releases.append(release)
    return [0, house.form.cost_at(release.levels)] + release.told()


def answer_text(house, numbers, row):
    q = numbers[0]
    if not 0 <= q < len(house.releases):
        return [NOT_AS_TOLD]
    return [0] + counted_bytes(release_text(house.form, house.rows_in_order(), house.releases[q]))


def answer_releases(house, numbers, row):
    answer = [0, len(house.releases)]
    for release in house.releases:
        answer.extend(release.told())
    return answer


def answer_hidden(house, numbers, row):
    w = numbers[0]
    if w not in house.rows:
        return [NO_SLEEPER]
    hiding = house.hiding(w)
    return [0, hiding.k, hiding.u, len(hiding.among), unlike_secrets(hiding.among)]


def answer_could(house, numbers, row):
    w = numbers[0]
    if w not in house.rows:
        return [NO_SLEEPER]
    return [0] + secret_counts(house.hiding(w).among, len(house.form.secret_values))


def answer_cost(house, numbers, levels):
    if not house.form.takes_levels(levels):
        return [NOT_AS_TOLD]
    return [0, house.form.cost_at(levels)]


def answer_next(house, numbers, asked):
    if not is_plan_as_told(house.form, numbers, asked):
        return [NOT_AS_TOLD]
    return [0] + next_counts(house.form, house.rows_in_order(), house.releases, numbers, asked)


def answer_print(house, numbers, row):
    return [0] + counted_bytes(form_text(house.form))


def answer_counts(house, numbers, row):
    form = house.form
    return [0, len(form.columns), len(form.secret_values), len(house.rows), len(house.releases)]


# By the calls' numbers. numbers: the call's whole numbers; of plan, release and next k, u, m.
ANSWERERS = (
    answer_form,
    answer_sleeper,
    answer_change,
    answer_show,
    answer_alike,
    answer_short,
    answer_plan,
    answer_release,
    answer_text,
    answer_releases,
    answer_hidden,
    answer_could,
    answer_cost,
    answer_next,
    answer_print,
    answer_counts,
)


def answer_call(house, call, numbers, row):
    if call != FORM and house.form is None:
        return [NO_FORM]
    return ANSWERERS[call](house, numbers, row)


def answers(calls):
    house = House()
    given = []
    place = 0
    while place < len(calls):
        call = calls[place]
        behind = place + 1 + NUMBER_COUNTS[call]
        numbers = calls[place + 1:behind]
        row = []
        if LIST_COUNTS[call] == 1:
            row = calls[behind + 1:behind + 1 + calls[behind]]
            behind = behind + 1 + len(row)
        answer = answer_call(house, call, numbers, row)
        given.append(len(answer))
        given.extend(answer)
        place = behind
    return given
