"""The two sorts of columns: their levels, and how a cell looks at each."""

GREATEST_NUMBER = 1000000
EVERYTHING = "*"


class NumbersColumn:
    def __init__(self, title, steps):
        self.title = title
        self.steps = steps
        self.costs = []

    def is_filled(self):
        return True

    # The lines of a form's text that tell the column, but for its costs.
    def opening_lines(self):
        return [" ".join(["numbers", self.title] + [str(step) for step in self.steps])]

    def level_count(self):
        return len(self.steps) + 2

    def holds(self, cell):
        return 0 <= cell <= GREATEST_NUMBER

    def look(self, cell, level):
        if level == self.level_count() - 1:
            return EVERYTHING
        if level == 0:
            return str(cell)
        step = self.steps[level - 1]
        return str(cell // step * step)


# A word's chain is the word itself, then those above it, from the nearest on.
class WordsColumn:
    def __init__(self, title):
        self.title = title
        self.chains = []
        self.longest_chain = 0
        self.costs = []

    def add_word(self, word, above):
        chain = [word] + above
        self.chains.append(chain)
        self.longest_chain = max(self.longest_chain, len(chain))

    # None if there is no such word.
    def chain_of(self, word):
        for chain in self.chains:
            if chain[0] == word:
                return chain
        return None

    def is_filled(self):
        return self.chains != []

    def opening_lines(self):
        return ["words " + self.title] + ["word " + " of ".join(chain[:2]) for chain in self.chains]

    def level_count(self):
        return self.longest_chain + 1

    def holds(self, cell):
        return 0 <= cell < len(self.chains)

    def look(self, cell, level):
        if level == self.level_count() - 1:
            return EVERYTHING
        chain = self.chains[cell]
        return chain[min(level, len(chain) - 1)]
