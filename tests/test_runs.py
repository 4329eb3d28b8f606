import itertools
import unittest

from tests.helper import ask, every_pair, follows, last, pair_list, situations, spell_run

TOP = 4294967295


def refused_pairs(marks):
    """Places and directions of which at least one is none that a quantity with these marks has."""
    beyond = 2 * marks + 1
    return ((beyond, 0), (beyond, 2), (TOP, 1), (0, 3), (2 * marks, 3), (0, TOP), (beyond, 3), (TOP, TOP))


def runs_from(marks, starts, moments):
    """All runs, one by one."""
    runs = [(start,) for start in starts]
    for moment in range(moments):
        runs = [run + (pair,) for run in runs for pair in every_pair(marks) if follows(marks, run[-1], pair)]
    return runs


class NextAndBefore(unittest.TestCase):
    def test_next_by_hand(self):
        told = ask("begin; quantity 2; next 0 0 0; next 0 1 0; next 0 1 1; next 0 2 0; next 0 2 2; next 0 3 2;"
                   "next 0 4 2")
        self.assertEqual([pair_list(answer) for answer in told[2:]], [
            [(0, 0), (0, 1)],
            [(0, 0), (0, 1)],
            [(1, 0), (1, 1), (1, 2)],
            [(1, 0), (1, 1), (2, 0), (2, 1)],
            [(2, 1), (2, 2), (3, 1), (3, 2)],
            [(4, 1), (4, 2)],
            [(4, 1), (4, 2)]])

    def test_before_by_hand(self):
        told = ask("begin; quantity 2; before 0 0 0; before 0 1 0; before 0 1 1; before 0 2 1; before 0 4 2;"
                   "before 0 0 2")
        self.assertEqual([pair_list(answer) for answer in told[2:]], [
            [(0, 0), (0, 1), (1, 0)],
            [(1, 1), (2, 0)],
            [(0, 2), (1, 1), (2, 0)],
            [(1, 2), (2, 0), (2, 1), (2, 2), (3, 0)],
            [(3, 2), (4, 1), (4, 2)],
            [(0, 1), (0, 2)]])

    def test_without_marks(self):
        told = ask("begin; quantity 0; next 0 0 0; next 0 0 1; next 0 0 2; before 0 0 0; before 0 0 1; before 0 0 2")
        three = [2, 0, 0, 0, 1], [3, 0, 0, 0, 1, 0, 2], [2, 0, 1, 0, 2]
        self.assertEqual(told[2:], list(three + three))

    def test_every_pair(self):
        for marks in range(5):
            everything = every_pair(marks)
            for pair in everything:
                with self.subTest(marks=marks, pair=pair):
                    asked = f"0 {pair[0]} {pair[1]}"
                    told = ask(f"begin; quantity {marks}; next {asked}; before {asked}")[2:]
                    self.assertEqual(pair_list(told[0]), [other for other in everything if follows(marks, pair, other)])
                    self.assertEqual(pair_list(told[1]), [other for other in everything if follows(marks, other, pair)])

    def test_next_is_what_may_be_a_moment_later(self):
        for marks in range(5):
            for place, direction in every_pair(marks):
                with self.subTest(marks=marks, place=place, direction=direction):
                    told = ask(f"begin; quantity {marks}; next 0 {place} {direction}; place 0 {place};"
                               f"way 0 {direction}; tick; pairs 0")
                    self.assertEqual(told[2], told[-1])

    def test_whatever_may_be_now(self):
        for name in ("next", "before"):
            with self.subTest(name):
                told = ask(f"begin; quantity 2; {name} 0 2 2; place 0 4; way 0 0; {name} 0 2 2; tick; {name} 0 2 2")
                self.assertEqual(told[2], told[5])
                self.assertEqual(told[2], told[7])

    def test_not_such_as_it_has(self):
        for name, marks in itertools.product(("next", "before"), range(5)):
            for place, direction in refused_pairs(marks):
                with self.subTest(name, marks=marks, place=place, direction=direction):
                    self.assertEqual(last(f"begin; quantity {marks}; {name} 0 {place} {direction}"), [-22])

    def test_no_such_quantity_first(self):
        for name in ("next", "before"):
            with self.subTest(name):
                told = ask(f"begin; {name} 0 0 0; quantity 1; {name} 1 0 0; {name} 1 9 0; {name} {TOP} {TOP} {TOP}")
                self.assertEqual(told, [[0], [-2], [0], [-2], [-2], [-2]])

    def test_of_that_quantity(self):
        told = ask("begin; quantity 1; quantity 2; next 0 2 2; next 1 2 2; before 0 2 0; before 1 2 0; next 0 4 0")
        self.assertEqual([pair_list(answer) for answer in told[3:7]], [
            [(2, 1), (2, 2)], [(2, 1), (2, 2), (3, 1), (3, 2)],
            [(2, 0), (2, 1)], [(2, 0), (2, 1), (3, 0)]])
        self.assertEqual(told[7], [-22])


class Run(unittest.TestCase):
    def asked(self, start, pairs):
        return last(start + "; " + spell_run(0, pairs))

    def test_one_pair(self):
        for marks in range(5):
            for pair in every_pair(marks):
                with self.subTest(marks=marks, pair=pair):
                    self.assertEqual(self.asked(f"begin; quantity {marks}", [pair]), [1])

    def test_every_two_pairs(self):
        for marks in range(5):
            for first in every_pair(marks):
                second = every_pair(marks)
                calls = "; ".join(spell_run(0, [first, pair]) for pair in second)
                told = ask(f"begin; quantity {marks}; " + calls)[2:]
                for pair, answer in zip(second, told):
                    with self.subTest(marks=marks, first=first, second=pair):
                        self.assertEqual(answer, [1 if follows(marks, first, pair) else 0])

    def test_every_three_pairs_with_one_mark(self):
        for first, second in itertools.product(every_pair(1), repeat=2):
            third = every_pair(1)
            told = ask("begin; quantity 1; " + "; ".join(spell_run(0, [first, second, pair]) for pair in third))[2:]
            for pair, answer in zip(third, told):
                with self.subTest(first=first, second=second, third=pair):
                    is_run = follows(1, first, second) and follows(1, second, pair)
                    self.assertEqual(answer, [1 if is_run else 0])

    def test_its_first_pair_must_be_one_that_may_be_now(self):
        for marks, text in situations():
            now = pair_list(last(text + "; pairs 0"))
            everything = every_pair(marks)
            told = ask(text + "; " + "; ".join(spell_run(0, [pair]) for pair in everything))[-len(everything):]
            with self.subTest(text):
                self.assertEqual(told, [[1 if pair in now else 0] for pair in everything])

    def test_the_others_need_not_be_such_as_may_be_now(self):
        start = "begin; quantity 1; place 0 0; way 0 2"
        self.assertEqual(self.asked(start, [(0, 2), (1, 2), (2, 2), (2, 1), (2, 0)]), [1])
        self.assertEqual(self.asked(start, [(1, 2), (2, 2)]), [0])
        self.assertEqual(self.asked(start, [(0, 1), (0, 2)]), [0])
        self.assertEqual(self.asked(start + "; tick", [(1, 2), (2, 2)]), [1])

    def test_a_mark_left_at_once(self):
        start = "begin; quantity 2"
        self.assertEqual(self.asked(start, [(1, 2), (1, 2)]), [0])
        self.assertEqual(self.asked(start, [(1, 2), (1, 1)]), [0])
        self.assertEqual(self.asked(start, [(3, 0), (3, 0)]), [0])
        self.assertEqual(self.asked(start, [(1, 2), (2, 1)]), [1])

    def test_a_mark_at_which_it_is_steady(self):
        start = "begin; quantity 2"
        self.assertEqual(self.asked(start, [(1, 1), (1, 1), (1, 1), (1, 0), (0, 0)]), [1])
        self.assertEqual(self.asked(start, [(1, 1), (2, 2)]), [0])

    def test_the_same_pair_again(self):
        start = "begin; quantity 2"
        for pair in every_pair(2):
            with self.subTest(pair=pair):
                left_at_once = pair in ((1, 0), (1, 2), (3, 0), (3, 2))
                self.assertEqual(self.asked(start, [pair, pair]), [0 if left_at_once else 1])

    def test_steady_first(self):
        start = "begin; quantity 0"
        self.assertEqual(self.asked(start, [(0, 0), (0, 2)]), [0])
        self.assertEqual(self.asked(start, [(0, 2), (0, 0)]), [0])
        self.assertEqual(self.asked(start, [(0, 0), (0, 1), (0, 2), (0, 1), (0, 0)]), [1])

    def test_no_mark_is_jumped_past(self):
        start = "begin; quantity 2"
        self.assertEqual(self.asked(start, [(0, 2), (2, 2)]), [0])
        self.assertEqual(self.asked(start, [(1, 2), (3, 2)]), [0])
        self.assertEqual(self.asked(start, [(0, 2), (1, 2), (2, 2), (3, 2), (4, 2), (4, 2)]), [1])

    def test_a_long_one(self):
        # 254 numbers are the most that are pairs; a fault at its very end is seen too.
        steady = [(4, 1)] * 126
        self.assertEqual(self.asked("begin; quantity 4", steady + [(4, 2)]), [1])
        self.assertEqual(self.asked("begin; quantity 4", steady + [(5, 1)]), [0])
        self.assertEqual(self.asked("begin; quantity 4", steady + [(9, 1)]), [-22])

    def test_not_pairs(self):
        told = ask(f"begin; quantity 1; run 0 0; run 0 1 0; run 0 3 0 1 0; run 0 255 {'0 ' * 255}; run 0 1 {TOP}; tick")
        self.assertEqual(told[2:], [[-22], [-22], [-22], [-22], [-22], [1]])

    def test_not_such_pairs_as_it_has(self):
        for marks in range(5):
            for pair in refused_pairs(marks):
                with self.subTest(marks=marks, pair=pair):
                    start = f"begin; quantity {marks}"
                    self.assertEqual(self.asked(start, [pair]), [-22])
                    self.assertEqual(self.asked(start, [(0, 1), (0, 1), pair]), [-22])
                    self.assertEqual(self.asked(start, [pair, (0, 1)]), [-22])

    def test_not_right_even_if_it_is_no_run_anyway(self):
        start = "begin; quantity 2; place 0 0"
        self.assertEqual(self.asked(start, [(4, 0), (5, 0)]), [-22])
        self.assertEqual(self.asked(start, [(0, 0), (0, 2), (0, 3)]), [-22])

    def test_no_such_quantity_first(self):
        told = ask("begin; run 0 2 0 0; quantity 1; run 1 2 0 0; run 1 0; run 1 1 0; run 1 2 9 9; run 0 2 0 0")
        self.assertEqual(told, [[0], [-2], [0], [-2], [-2], [-2], [-2], [1]])
        self.assertEqual(last(f"begin; quantity 1; run {TOP} 2 {TOP} {TOP}"), [-2])

    def test_path_is_a_run(self):
        for marks in range(5):
            for place in range(2 * marks + 1):
                for goal in range(2 * marks + 1):
                    start = f"begin; quantity {marks}; place 0 {place}"
                    told = last(f"{start}; path 0 {goal}")[1:]
                    with self.subTest(marks=marks, place=place, goal=goal):
                        self.assertEqual(last(f"{start}; run 0 {len(told)} {' '.join(map(str, told))}"), [1])


class Count(unittest.TestCase):
    def test_0_is_how_many_pairs_may_be(self):
        for marks, text in situations():
            with self.subTest(text):
                told = ask(text + "; look 0; count 0 0")
                self.assertEqual(told[-1], [told[-2][1]])

    def test_by_hand(self):
        told = ask("begin; quantity 1; place 0 1; way 0 2; count 0 0; count 0 1; count 0 2")
        self.assertEqual(told[4:], [[1], [2], [5]])
        told = ask("begin; quantity 0; way 0 1; count 0 0; count 0 1; count 0 2; count 0 3; count 0 4")
        self.assertEqual(told[3:], [[1], [3], [7], [17], [41]])

    def test_as_many_as_there_are(self):
        for marks, text in situations():
            now = pair_list(last(text + "; pairs 0"))
            told = ask(text + "; count 0 1; count 0 2; count 0 3")[-3:]
            with self.subTest(text):
                self.assertEqual(told, [[len(runs_from(marks, now, moments))] for moments in (1, 2, 3)])

    def test_up_to_6(self):
        for marks in (0, 1, 2):
            told = ask(f"begin; quantity {marks}; way 0 2; count 0 4; count 0 5; count 0 6")[3:]
            starts = [(place, 2) for place in range(2 * marks + 1)]
            with self.subTest(marks=marks):
                self.assertEqual(told, [[len(runs_from(marks, starts, moments))] for moments in (4, 5, 6)])

    def test_k_above_6(self):
        for marks in range(5):
            with self.subTest(marks=marks):
                told = ask(f"begin; quantity {marks}; count 0 7; count 0 40; count 0 {TOP}; count 0 0")[2:]
                self.assertEqual(told, [[-22], [-22], [-22], [3 * (2 * marks + 1)]])

    def test_also_behind_the_last_moment(self):
        told = ask("begin; quantity 1; count 0 6" + "; tick" * 40 + "; count 0 6")
        self.assertEqual(told[-1], told[2])

    def test_no_such_quantity_first(self):
        told = ask(f"begin; count 0 0; count 0 7; quantity 1; count 1 0; count 1 7; count {TOP} {TOP}")
        self.assertEqual(told, [[0], [-2], [-2], [0], [-2], [-2], [-2]])


if __name__ == "__main__":
    unittest.main()
