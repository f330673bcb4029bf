"""A form: its columns, its secret, and which lists are as it tells."""


class Form:
    def __init__(self, columns, secret_name, secret_values):
        self.columns = columns
        self.secret_name = secret_name
        self.secret_values = secret_values

    def level_counts(self):
        return [column.level_count() for column in self.columns]

    def takes_secret(self, secret):
        return 0 <= secret < len(self.secret_values)

    def takes_cells(self, cells):
        if len(cells) != len(self.columns):
            return False
        return all([column.holds(cell) for column, cell in zip(self.columns, cells)])

    def takes_levels(self, levels):
        if len(levels) != len(self.columns):
            return False
        return all([0 <= level < levels_here for level, levels_here in zip(levels, self.level_counts())])

    def takes_asked(self, asked):
        return len(asked) == len(self.columns) and all([0 <= mark <= 1 for mark in asked])

    def looks_of(self, cells, levels):
        return tuple([column.look(cell, level) for column, cell, level in zip(self.columns, cells, levels)])

    def cost_at(self, levels):
        return sum([column.costs[level] for column, level in zip(self.columns, levels)])
