"""The object that the calls are made on: its quantities, its moment, its changes."""

from betweenmarks.follow import all_pairs, following_pairs

MOST_CHANGES = 40


class Plant:
    def __init__(self):
        self.moment = 0
        self.marks = []
        self.possible = []
        self.earlier = []

    def has_quantity(self, i):
        return i < len(self.marks)

    def remember(self):
        """Keep what stands now; to be called ahead of each change."""
        # The lists of pairs are only ever replaced, so copying the outer lists is enough.
        self.earlier.append((self.moment, list(self.marks), list(self.possible)))
        if len(self.earlier) > MOST_CHANGES:
            self.earlier.pop(0)

    def add_quantity(self, marks):
        self.remember()
        self.marks.append(marks)
        self.possible.append(all_pairs(marks))

    def set_possible(self, i, pairs):
        self.remember()
        self.possible[i] = pairs

    def pass_moment(self):
        self.remember()
        self.moment = self.moment + 1
        self.possible = [following_pairs(marks, pairs) for marks, pairs in zip(self.marks, self.possible)]

    def take_back(self):
        stood = self.earlier.pop()
        self.moment = stood[0]
        self.marks = stood[1]
        self.possible = stood[2]
