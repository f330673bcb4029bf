"""The table's rows, and which of them look alike."""


class Row:
    def __init__(self, sleeper, secret, cells):
        self.sleeper = sleeper
        self.secret = secret
        self.cells = cells


def unlike_secrets(rows):
    return len(set([row.secret for row in rows]))


# For each value of the secret, in order, how many of the rows have it.
def secret_counts(rows, value_count):
    secrets = [row.secret for row in rows]
    return [secrets.count(value) for value in range(value_count)]


def are_enough(rows, k, u):
    return len(rows) >= k and unlike_secrets(rows) >= u


def class_of(form, rows, row, levels):
    looks = form.looks_of(row.cells, levels)
    return [other for other in rows if form.looks_of(other.cells, levels) == looks]


# The rows of each look there is.
def classes_at(form, rows, levels):
    classes = {}
    for row in rows:
        looks = form.looks_of(row.cells, levels)
        if looks not in classes:
            classes[looks] = []
        classes[looks].append(row)
    return classes
