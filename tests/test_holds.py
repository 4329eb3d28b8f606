"""Point 5 of the document: what holds over the whole program."""

import unittest

from tests.helper import ask, every_pair, last, pair_list, situations, spell_run


def turned_pair(marks, pair):
    return 2 * marks - pair[0], 2 - pair[1]


def turned_pairs(marks, pairs):
    return sorted(turned_pair(marks, pair) for pair in pairs)


def turned_text(marks, text):
    """The same calls with below for above and rising for falling."""
    calls = []
    for call in text.split(";"):
        words = call.split()
        if words[0] in ("place", "notat"):
            words[2] = str(2 * marks - int(words[2]))
        elif words[0] == "way":
            words[2] = str(2 - int(words[2]))
        calls.append(" ".join(words))
    return "; ".join(calls)


def place_of(number, marks):
    return sum((number > mark) + (number >= mark) for mark in marks)


def may_go(number, direction, other, marks):
    sign = (other > number) - (other < number)
    return sign == direction - 1 and abs(place_of(other, marks) - place_of(number, marks)) <= 1


def rows_of_numbers(many, moments):
    """All rows of places and directions that whole numbers go through among so many marks."""
    # Wide enough that it can move in one direction for all these moments and stay between two marks.
    wide = moments + 2
    marks = [wide * at for at in range(1, many + 1)]
    numbers = range(wide * (many + 1) + 1)
    rows = {(number, direction, ((place_of(number, marks), direction),))
            for number in numbers for direction in range(3)}
    for moment in range(moments):
        rows = {(other, turn, row + ((place_of(other, marks), turn),))
                for number, direction, row in rows
                for other in numbers if may_go(number, direction, other, marks)
                for turn in range(3) if abs(turn - direction) <= 1}
    return sorted({row for number, direction, row in rows})


class WhatHolds(unittest.TestCase):
    def test_a_run_is_what_some_whole_numbers_go_through(self):
        for marks, moments in ((0, 0), (0, 3), (1, 1), (1, 3), (2, 2), (3, 1), (4, 1)):
            rows = rows_of_numbers(marks, moments)
            start = f"begin; quantity {marks}"
            with self.subTest(marks=marks, moments=moments):
                # Each is a run, and there are no other runs, since there are just as many.
                self.assertEqual(last(f"{start}; count 0 {moments}"), [len(rows)])
                for at in range(0, len(rows), 50):
                    part = rows[at:at + 50]
                    told = ask(start + "; " + "; ".join(spell_run(0, row) for row in part))[2:]
                    self.assertEqual(told, [[1]] * len(part))

    def test_what_is_told_behind_a_moment_is_what_may_follow(self):
        for marks, text in situations():
            told = ask(text + "; pairs 0; tick; pairs 0")
            now = pair_list(told[-3])
            followed = ask(text + "".join(f"; next 0 {place} {direction}" for place, direction in now))[-len(now):]
            with self.subTest(text):
                self.assertEqual(pair_list(told[-1]), sorted(set().union(*map(pair_list, followed))))

    def test_something_follows_and_everything_follows_something(self):
        for marks in range(5):
            for place, direction in every_pair(marks):
                with self.subTest(marks=marks, place=place, direction=direction):
                    asked = f"0 {place} {direction}"
                    told = ask(f"begin; quantity {marks}; next {asked}; before {asked}")[2:]
                    self.assertGreater(min(told)[0], 0)

    def test_from_any_pair_any_place_is_come_to(self):
        for marks in range(5):
            places = range(2 * marks + 1)
            for place, direction in every_pair(marks):
                calls = "".join(f"; soonest 0 {goal}; path 0 {goal}" for goal in places)
                told = ask(f"begin; quantity {marks}; place 0 {place}; way 0 {direction}{calls}")[4:]
                for goal in places:
                    with self.subTest(marks=marks, place=place, direction=direction, goal=goal):
                        self.assertEqual(told[2 * goal + 1][1:3], [place, direction])
                        self.assertEqual(told[2 * goal + 1][-2], goal)
                        self.assertEqual(told[2 * goal][0], told[2 * goal + 1][0])

    def test_turned_about_what_may_be(self):
        for marks, text in situations():
            behind = "; pairs 0; sure 0; count 0 6; tick; tick; pairs 0"
            told = ask(text + behind)
            turned = ask(turned_text(marks, text) + behind)
            with self.subTest(text):
                self.assertEqual(pair_list(turned[-6]), turned_pairs(marks, pair_list(told[-6])))
                self.assertEqual(pair_list(turned[-1]), turned_pairs(marks, pair_list(told[-1])))
                self.assertEqual(turned[-4], told[-4])
                sure = told[-5][0]
                self.assertEqual(turned[-5], [sure if sure < 0 else 2 * marks - sure])

    def test_turned_about_how_soon(self):
        for marks, text in situations():
            places = range(2 * marks + 1)
            calls = "".join(f"; soonest 0 {place}" for place in places)
            told = ask(text + calls)[-len(places):]
            turned = ask(turned_text(marks, text) + calls)[-len(places):]
            with self.subTest(text):
                self.assertEqual(turned, told[::-1])

    def test_turned_about_what_follows(self):
        for marks in range(5):
            for pair in every_pair(marks):
                answers = []
                for place, direction in (pair, turned_pair(marks, pair)):
                    asked = f"0 {place} {direction}"
                    answers.append(ask(f"begin; quantity {marks}; next {asked}; before {asked}")[2:])
                with self.subTest(marks=marks, pair=pair):
                    for told, turned in zip(*answers):
                        self.assertEqual(pair_list(turned), turned_pairs(marks, pair_list(told)))


if __name__ == "__main__":
    unittest.main()
