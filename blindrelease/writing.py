"""The texts that are given back: a form's and a release's."""

from blindrelease.table import classes_at
from blindrelease.table import secret_counts


def ended(lines):
    return "".join([line + "\n" for line in lines])


def form_text(form):
    lines = []
    for column in form.columns:
        lines.extend(column.opening_lines())
        lines.append(" ".join(["costs"] + [str(cost) for cost in column.costs]))
    lines.append(" ".join(["secret", form.secret_name] + form.secret_values))
    return ended(lines)


def release_line(looks, counts):
    return " ".join(list(looks) + [":"] + [str(count) for count in counts])


# A row that a release has is never changed, so it looks and counts as it did when the release went out.
def release_text(form, rows, release):
    classes = classes_at(form, [row for row in rows if release.has(row)], release.levels)
    value_count = len(form.secret_values)
    return ended([release_line(looks, secret_counts(classes[looks], value_count)) for looks in sorted(classes)])
