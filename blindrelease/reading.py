"""Reads a form from its text, line by line, up to the first wrong line."""

from blindrelease.columns import NumbersColumn
from blindrelease.columns import WordsColumn
from blindrelease.forms import Form
from blindrelease.signs import are_names
from blindrelease.signs import are_numbers_within
from blindrelease.signs import is_name
from blindrelease.signs import lines_of
from blindrelease.signs import words_of

MOST_COLUMNS = 4
MOST_STEPS = 2
LEAST_STEP = 2
GREATEST_STEP = 1000000
MOST_WORDS = 30
# The word above and one more above that.
MOST_ABOVE = 2
GREATEST_COST = 10000
FEWEST_SECRETS = 2
MOST_SECRETS = 12


def are_steps(steps):
    for before, step in zip(steps, steps[1:]):
        if step <= before or step % before != 0:
            return False
    return True


def never_fall(costs):
    return all([before <= cost for before, cost in zip(costs, costs[1:])])


# Each take_.. says whether its line is right. After a line that isn't, the reader is of no use.
class FormReader:
    def __init__(self):
        self.columns = []
        self.unended = None
        self.secret_name = None
        self.secret_values = []

    # The wrong line's number, or 0 if the text is right.
    def read(self, data):
        lines = lines_of(data)
        for number, line in enumerate(lines, start=1):
            words = words_of(line)
            if words != [] and not self.take_line(words):
                return number
        if self.is_complete():
            return 0
        return len(lines) + 1

    def is_complete(self):
        return self.columns != [] and self.unended is None and self.secret_name is not None

    def made_form(self):
        return Form(self.columns, self.secret_name, self.secret_values)

    def take_line(self, words):
        if self.unended is not None:
            return self.take_line_within(words)
        if words[0] == "numbers":
            return self.take_numbers(words)
        if words[0] == "words":
            return self.take_words(words)
        if words[0] == "secret":
            return self.take_secret(words)
        return False

    def take_line_within(self, words):
        if words[0] == "word":
            return self.take_word(words)
        if words[0] == "costs":
            return self.take_costs(words)
        return False

    def is_new_name(self, word):
        if not is_name(word) or word == self.secret_name:
            return False
        return word not in [column.title for column in self.columns]

    def begin_column(self, column):
        if len(self.columns) == MOST_COLUMNS or not self.is_new_name(column.title):
            return False
        self.columns.append(column)
        self.unended = column
        return True

    def take_numbers(self, words):
        steps = words[2:]
        if len(words) < 2 or len(steps) > MOST_STEPS:
            return False
        if not are_numbers_within(steps, LEAST_STEP, GREATEST_STEP):
            return False
        steps = [int(step) for step in steps]
        return are_steps(steps) and self.begin_column(NumbersColumn(words[1], steps))

    def take_words(self, words):
        return len(words) == 2 and self.begin_column(WordsColumn(words[1]))

    def take_word(self, words):
        column = self.unended
        if not isinstance(column, WordsColumn) or len(column.chains) == MOST_WORDS:
            return False
        if len(words) < 2 or not is_name(words[1]) or column.chain_of(words[1]) is not None:
            return False
        above = self.chain_above(words)
        if above is None or len(above) > MOST_ABOVE:
            return False
        column.add_word(words[1], above)
        return True

    # None if what stands behind the word isn't right.
    def chain_above(self, words):
        if len(words) == 2:
            return []
        if len(words) == 4 and words[2] == "of":
            return self.unended.chain_of(words[3])
        return None

    def take_costs(self, words):
        column = self.unended
        costs = words[1:]
        if not column.is_filled() or len(costs) != column.level_count():
            return False
        if not are_numbers_within(costs, 0, GREATEST_COST):
            return False
        column.costs = [int(cost) for cost in costs]
        self.unended = None
        return never_fall(column.costs)

    def take_secret(self, words):
        secrets = words[2:]
        if self.secret_name is not None or not FEWEST_SECRETS <= len(secrets) <= MOST_SECRETS:
            return False
        if not self.is_new_name(words[1]) or not are_names(secrets):
            return False
        self.secret_name = words[1]
        self.secret_values = secrets
        return len(set(secrets)) == len(secrets)
