"""Whole lines of calls, answered a second time by a plain model that follows the document's words."""

import unittest

from betweenmarks.marks import answers
from tests.helper import NUMBERS, every_pair, follows, split_answers


class Model:
    def __init__(self):
        self.begun = False

    def begin(self):
        self.begun = True
        self.now = (0, ())
        self.past = []
        return [0]

    def answer(self, name, given):
        if name != "begin" and not self.begun:
            return [-11]
        if name not in ("begin", "quantity", "tick", "back", "state"):
            if given[0] >= len(self.now[1]):
                return [-2]
        return getattr(self, name)(*given)

    def marks(self, i):
        return self.now[1][i][0]

    def pairs_of(self, i):
        return self.now[1][i][1]

    def places_of(self, i):
        return sorted({place for place, direction in self.pairs_of(i)})

    def change(self, moment, quantities):
        self.past = (self.past + [self.now])[-40:]
        self.now = (moment, tuple(quantities))

    def keep(self, i, pairs):
        if not pairs:
            return [-33]
        quantities = list(self.now[1])
        quantities[i] = (self.marks(i), frozenset(pairs))
        self.change(self.now[0], quantities)
        return [len(pairs)]

    def after(self, marks, pairs):
        return frozenset(pair for pair in every_pair(marks) if any(follows(marks, one, pair) for one in pairs))

    def quantity(self, m):
        if m > 4:
            return [-22]
        if len(self.now[1]) == 5:
            return [-28]
        self.change(self.now[0], self.now[1] + ((m, frozenset(every_pair(m))),))
        return [len(self.now[1]) - 1]

    def place(self, i, p):
        if p > 2 * self.marks(i):
            return [-22]
        return self.keep(i, [pair for pair in self.pairs_of(i) if pair[0] == p])

    def way(self, i, d):
        if d > 2:
            return [-22]
        return self.keep(i, [pair for pair in self.pairs_of(i) if pair[1] == d])

    def notat(self, i, p):
        if p > 2 * self.marks(i):
            return [-22]
        return self.keep(i, [pair for pair in self.pairs_of(i) if pair[0] != p])

    def forget(self, i):
        return self.keep(i, every_pair(self.marks(i)))

    def tick(self):
        if self.now[0] == 40:
            return [-28]
        self.change(self.now[0] + 1, [(marks, self.after(marks, pairs)) for marks, pairs in self.now[1]])
        return [self.now[0]]

    def back(self):
        if not self.past:
            return [-6]
        self.now = self.past.pop()
        return [len(self.past)]

    def may(self, i):
        return [len(self.places_of(i))] + self.places_of(i)

    def ways(self, i):
        return [sum({1 << direction for place, direction in self.pairs_of(i)})]

    def told(self, pairs):
        return [len(pairs)] + [number for pair in sorted(pairs) for number in pair]

    def pairs(self, i):
        return self.told(self.pairs_of(i))

    def sure(self, i):
        return self.places_of(i) if len(self.places_of(i)) == 1 else [-33]

    def later(self, i, k):
        if k > 40:
            return [-22]
        pairs = self.pairs_of(i)
        for moment in range(k):
            pairs = self.after(self.marks(i), pairs)
        places = sorted({place for place, direction in pairs})
        return [len(places)] + places

    def shortest(self, marks, starts, is_goal):
        runs = {start: [start] for start in starts}
        while not any(is_goal(end) for end in runs):
            runs = {pair: min(run + [pair] for end, run in runs.items() if follows(marks, end, pair))
                    for pair in self.after(marks, runs)}
        return min(run for end, run in runs.items() if is_goal(end))

    def soonest(self, i, p):
        return self.path(i, p)[:1]

    def path(self, i, p):
        if p > 2 * self.marks(i):
            return [-22]
        run = self.shortest(self.marks(i), self.pairs_of(i), lambda end: end[0] == p)
        return [len(run) - 1] + [number for pair in run for number in pair]

    def between(self, i, p, d, r, e):
        if max(p, r) > 2 * self.marks(i) or max(d, e) > 2:
            return [-22]
        return [len(self.shortest(self.marks(i), [(p, d)], lambda end: end == (r, e))) - 1]

    def next(self, i, p, d):
        if (p, d) not in every_pair(self.marks(i)):
            return [-22]
        return self.told(self.after(self.marks(i), [(p, d)]))

    def before(self, i, p, d):
        everything = every_pair(self.marks(i))
        if (p, d) not in everything:
            return [-22]
        return self.told([pair for pair in everything if follows(self.marks(i), pair, (p, d))])

    def run(self, i, row):
        pairs = list(zip(row[::2], row[1::2]))
        if not row or len(row) % 2 or not set(pairs) <= set(every_pair(self.marks(i))):
            return [-22]
        linked = all(follows(self.marks(i), one, other) for one, other in zip(pairs, pairs[1:]))
        return [int(linked and pairs[0] in self.pairs_of(i))]

    def count(self, i, k):
        if k > 6:
            return [-22]
        many = {pair: 1 for pair in every_pair(self.marks(i))}
        for moment in range(k):
            many = {pair: sum(many[other] for other in many if follows(self.marks(i), pair, other)) for pair in many}
        return [sum(many[pair] for pair in self.pairs_of(i))]

    def look(self, i):
        return [self.marks(i), len(self.pairs_of(i))] + self.may(i)[:1] + self.ways(i)

    def state(self):
        return [self.now[0], len(self.now[1]), len(self.past)]


class Chooser:
    """Numbers in a fixed order without an evident pattern."""

    def __init__(self, seed):
        self.number = seed

    def below(self, bound):
        self.number = (self.number * 6364136223846793005 + 1442695040888963407) % 2 ** 64
        return (self.number >> 33) % bound

    def of(self, choices):
        return choices[self.below(len(choices))]

    def given(self, letter):
        if self.below(25) == 0:
            return self.of((3, 5, 7, 9, 41, 255, 2 ** 31, 2 ** 32 - 1))
        if letter == "k":
            return self.of((0, 1, 2, 3, 4, 5, 6, 7, 39, 40))
        return self.below({"i": 3, "m": 5, "p": 9, "d": 3}[letter])

    def row(self):
        place = self.below(9)
        direction = self.below(3)
        row = []
        for pair in range(self.below(5)):
            row += [place, direction]
            place = max(0, place + self.of((0, direction - 1)))
            direction = self.of((direction, 1, 2 - direction))
        return row + [0] if self.below(12) == 0 else row

    def call(self, names):
        name = self.of(names)
        letters = {"quantity": "m", "place": "ip", "way": "id", "notat": "ip", "forget": "i", "may": "i", "ways": "i",
                   "pairs": "i", "sure": "i", "soonest": "ip", "path": "ip", "between": "ipdpd", "next": "ipd",
                   "before": "ipd", "run": "i", "count": "ik", "later": "ik", "look": "i"}.get(name, "")
        given = [self.given(letter) for letter in letters]
        return name, given + [self.row()] if name == "run" else given


EVERY = list(NUMBERS)
MOVES = ["place", "way", "notat", "tick", "back"] * 2
ASKED = EVERY[8:] * 2


def line_of(seed):
    chooser = Chooser(seed)
    line = [] if seed % 7 == 0 else [("begin", []), ("quantity", [chooser.below(5)]), ("quantity", [chooser.below(5)])]
    names = (EVERY, EVERY[1:] + MOVES, MOVES + ASKED, ["tick"] * 6 + ["back", "place", "state", "pairs"])[seed % 4]
    while len(line) < 60:
        line.append(chooser.call(names))
    return line


def spelled(line):
    numbers = []
    for name, given in line:
        numbers.append(NUMBERS[name])
        for one in given:
            numbers += [len(one)] + one if isinstance(one, list) else [one]
    return numbers


class Lines(unittest.TestCase):
    def test_lines_as_the_model_answers_them(self):
        for seed in range(400):
            line = line_of(seed)
            model = Model()
            expected = [model.answer(name, given) for name, given in line]
            calls = spelled(line)
            copy = list(calls)
            told = answers(calls)
            with self.subTest(seed=seed):
                for call, wanted, answer in zip(line, expected, split_answers(told), strict=True):
                    self.assertEqual(answer, wanted, call)
                self.assertEqual(calls, copy)
                self.assertEqual(answers(calls), told)
                self.assertEqual({type(number) for number in told}, {int})

    def test_the_lines_hold_every_answer(self):
        seen = {}
        for seed in range(400):
            line = line_of(seed)
            for call, answer in zip(line, split_answers(answers(spelled(line)))):
                seen.setdefault(call[0], set()).add(min(answer[0], 0) if call[0] != "run" else answer[0])
        refused = {
            "begin": set(), "quantity": {-22, -28}, "place": {-2, -22, -33}, "way": {-2, -22, -33},
            "notat": {-2, -22, -33}, "tick": {-28}, "forget": {-2}, "back": {-6}, "may": {-2}, "ways": {-2},
            "pairs": {-2}, "sure": {-2, -33}, "soonest": {-2, -22}, "path": {-2, -22}, "between": {-2, -22},
            "next": {-2, -22}, "before": {-2, -22}, "run": {-2, -22, 1}, "count": {-2, -22}, "later": {-2, -22},
            "look": {-2}, "state": set()}
        for name in EVERY:
            with self.subTest(name):
                self.assertEqual(seen[name], {0} | refused[name] | ({-11} if name != "begin" else set()))


if __name__ == "__main__":
    unittest.main()
