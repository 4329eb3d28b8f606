import itertools
import unittest

from tests.helper import ask, every_pair, follows, last, pair_list, run_pairs, situations

TOP = 4294967295


def least_runs(marks, starts):
    """Moment by moment, of each pair that may be come to then the least run that ends with it."""
    least = {start: (start,) for start in starts}
    while True:
        yield least
        further = {}
        for pair in every_pair(marks):
            runs = [run + (pair,) for end, run in least.items() if follows(marks, end, pair)]
            if runs:
                further[pair] = min(runs)
        least = further


def expected_path(marks, starts, place):
    for least in least_runs(marks, starts):
        runs = [run for end, run in least.items() if end[0] == place]
        if runs:
            return list(min(runs))


class Soonest(unittest.TestCase):
    def test_now(self):
        for marks in range(5):
            with self.subTest(marks=marks):
                calls = "".join(f"; soonest 0 {place}" for place in range(2 * marks + 1))
                self.assertEqual(ask(f"begin; quantity {marks}{calls}")[2:], [[0]] * (2 * marks + 1))

    def test_from_the_first_place(self):
        told = ask("begin; quantity 2; place 0 0; soonest 0 0; soonest 0 1; soonest 0 2; soonest 0 3; soonest 0 4")
        self.assertEqual(told[3:], [[0], [1], [2], [3], [4]])

    def test_from_the_last_place(self):
        told = ask("begin; quantity 2; place 0 4; soonest 0 0; soonest 0 1; soonest 0 2; soonest 0 3; soonest 0 4")
        self.assertEqual(told[3:], [[4], [3], [2], [1], [0]])

    def test_steady_first(self):
        self.assertEqual(ask("begin; quantity 1; place 0 0; way 0 0; soonest 0 1; soonest 0 2")[4:], [[3], [4]])
        self.assertEqual(ask("begin; quantity 1; place 0 2; way 0 2; soonest 0 1; soonest 0 0")[4:], [[3], [4]])

    def test_a_mark_at_which_it_is_steady(self):
        self.assertEqual(ask("begin; quantity 1; place 0 1; way 0 1; soonest 0 0; soonest 0 1; soonest 0 2")[4:],
                         [[2], [0], [2]])

    def test_a_mark_left_at_once(self):
        # It is beyond the mark, steady there, falls, and only then is at what lies before the mark.
        self.assertEqual(ask("begin; quantity 1; place 0 1; way 0 2; soonest 0 2; soonest 0 1; soonest 0 0")[4:],
                         [[1], [0], [4]])
        self.assertEqual(ask("begin; quantity 1; place 0 1; way 0 2; tick; soonest 0 2; soonest 0 1; soonest 0 0")[5:],
                         [[0], [2], [3]])

    def test_without_marks(self):
        self.assertEqual(ask("begin; quantity 0; way 0 2; soonest 0 0; soonest 0 1")[3:], [[0], [-22]])

    def test_just_so_by_moments_that_go_by(self):
        for marks, text in situations():
            if marks > 2:
                continue
            behind = ask(text + "; may 0" + "; tick; may 0" * 12)[-25::2]
            for place in range(2 * marks + 1):
                with self.subTest(text, place=place):
                    first = [place in may[1:] for may in behind].index(True)
                    self.assertEqual(last(f"{text}; soonest 0 {place}"), [first])

    def test_also_behind_the_last_moment(self):
        told = ask("begin; quantity 4" + "; tick" * 40 + "; place 0 0; way 0 0; soonest 0 8; path 0 8")
        self.assertEqual(told[-2], [10])
        self.assertEqual(told[-1][0], 10)

    def test_no_such_place(self):
        for name, marks in itertools.product(("soonest", "path"), range(5)):
            with self.subTest(name, marks=marks):
                told = ask(f"begin; quantity {marks}; {name} 0 {2 * marks + 1}; {name} 0 {TOP}; {name} 0 {2 * marks}")
                self.assertEqual(told[2:4], [[-22], [-22]])
                self.assertEqual(told[4][0], 0)

    def test_no_such_quantity_first(self):
        for name in ("soonest", "path"):
            with self.subTest(name):
                told = ask(f"begin; {name} 0 0; {name} 0 9; quantity 1; {name} 1 0; {name} 1 9; {name} {TOP} {TOP}")
                self.assertEqual(told, [[0], [-2], [-2], [0], [-2], [-2], [-2]])


class Path(unittest.TestCase):
    def test_now(self):
        self.assertEqual(last("begin; quantity 2; path 0 3"), [0, 3, 0])
        self.assertEqual(last("begin; quantity 2; way 0 2; path 0 3"), [0, 3, 2])
        self.assertEqual(last("begin; quantity 0; path 0 0"), [0, 0, 0])

    def test_by_hand(self):
        self.assertEqual(last("begin; quantity 2; place 0 0; path 0 2"), [2, 0, 2, 1, 2, 2, 1])
        self.assertEqual(last("begin; quantity 2; place 0 4; path 0 2"), [2, 4, 0, 3, 0, 2, 0])
        self.assertEqual(last("begin; quantity 1; place 0 0; way 0 0; path 0 1"), [3, 0, 0, 0, 1, 0, 2, 1, 1])
        self.assertEqual(last("begin; quantity 1; place 0 1; way 0 2; path 0 0"),
                         [4, 1, 2, 2, 1, 2, 0, 1, 0, 0, 0])

    def test_the_lesser_pair_where_two_first_differ(self):
        # Both from below and from above: the lesser first pair is chosen, though the other run ends with a lesser one.
        told = last("begin; quantity 2; notat 0 1; notat 0 2; notat 0 3; path 0 2")
        self.assertEqual(told, [2, 0, 2, 1, 2, 2, 1])
        # Now or never: a pair that may be now but takes longer is not chosen, however small.
        self.assertEqual(last("begin; quantity 2; notat 0 3; notat 0 2; path 0 3"), [1, 4, 0, 3, 0])

    def test_the_last_pair_is_the_least_that_follows(self):
        self.assertEqual(last("begin; quantity 1; place 0 0; path 0 1"), [1, 0, 2, 1, 1])
        self.assertEqual(last("begin; quantity 1; place 0 2; path 0 1"), [1, 2, 0, 1, 0])

    def test_everywhere(self):
        for marks, text in situations():
            now = pair_list(last(text + "; pairs 0"))
            places = range(2 * marks + 1)
            told = ask(text + "".join(f"; path 0 {place}; soonest 0 {place}" for place in places))[-2 * len(places):]
            for place in places:
                with self.subTest(text, place=place):
                    path = run_pairs(told[2 * place])
                    self.assertEqual(path, expected_path(marks, now, place))
                    self.assertEqual(told[2 * place + 1], [len(path) - 1])

    def test_least_of_all_runs_one_by_one(self):
        for start in every_pair(1):
            text = f"begin; quantity 1; place 0 {start[0]}; way 0 {start[1]}"
            for place in range(3):
                path = run_pairs(last(f"{text}; path 0 {place}"))
                rows = itertools.product(every_pair(1), repeat=len(path) - 1)
                runs = [[start, *row] for row in rows
                        if (row or [start])[-1][0] == place
                        and all(follows(1, one, other) for one, other in zip((start,) + row, row))]
                with self.subTest(start=start, place=place):
                    self.assertEqual(path, min(runs))


class Between(unittest.TestCase):
    def asked(self, marks, pair, other):
        return last(f"begin; quantity {marks}; between 0 {pair[0]} {pair[1]} {other[0]} {other[1]}")

    def test_from_a_pair_to_itself(self):
        for marks in range(5):
            for pair in every_pair(marks):
                with self.subTest(marks=marks, pair=pair):
                    self.assertEqual(self.asked(marks, pair, pair), [0])

    def test_by_hand(self):
        self.assertEqual(self.asked(1, (0, 2), (1, 2)), [1])
        self.assertEqual(self.asked(1, (0, 2), (1, 0)), [2])
        self.assertEqual(self.asked(1, (1, 2), (1, 1)), [3])
        self.assertEqual(self.asked(1, (0, 0), (2, 0)), [5])
        self.assertEqual(self.asked(1, (2, 0), (0, 0)), [2])
        self.assertEqual(self.asked(0, (0, 0), (0, 2)), [2])
        self.assertEqual(self.asked(4, (0, 0), (8, 0)), [11])

    def test_every_two_pairs(self):
        for marks in range(5):
            everything = every_pair(marks)
            for pair in everything:
                moments = {}
                for moment, least in zip(range(40), least_runs(marks, [pair])):
                    for end in least:
                        moments.setdefault(end, moment)
                calls = "".join(f"; between 0 {pair[0]} {pair[1]} {end[0]} {end[1]}" for end in everything)
                with self.subTest(marks=marks, pair=pair):
                    self.assertEqual(ask(f"begin; quantity {marks}{calls}")[2:], [[moments[end]] for end in everything])

    def test_whatever_may_be_now(self):
        told = ask("begin; quantity 2; between 0 0 0 4 2; place 0 3; between 0 0 0 4 2; tick; between 0 0 0 4 2;"
                   "between 0 4 1 0 1; forget 0; between 0 4 1 0 1")
        self.assertEqual([told[2], told[4], told[6]], [[6]] * 3)
        self.assertEqual(told[7], told[9])

    def test_of_that_quantity(self):
        told = ask("begin; quantity 4; quantity 1; between 0 2 2 2 0; between 1 2 2 2 0; between 1 2 2 4 0")
        self.assertEqual(told[3:], [[2], [2], [-22]])

    def test_not_such_as_it_has(self):
        for marks in range(5):
            beyond = 2 * marks + 1
            for wrong in (f"{beyond} 0 0 0", "0 3 0 0", f"0 0 {beyond} 0", "0 0 0 3", f"{TOP} 1 0 1", f"0 {TOP} 0 1",
                          f"0 1 {TOP} 1", f"0 1 0 {TOP}", f"{beyond} 0 {beyond} 0", "0 3 0 3"):
                with self.subTest(marks=marks, wrong=wrong):
                    self.assertEqual(last(f"begin; quantity {marks}; between 0 {wrong}"), [-22])

    def test_no_such_quantity_first(self):
        told = ask(f"begin; between 0 0 0 0 0; quantity 1; between 1 0 0 0 0; between 1 9 9 9 9;"
                   f"between {TOP} {TOP} {TOP} {TOP} {TOP}")
        self.assertEqual(told, [[0], [-2], [0], [-2], [-2], [-2]])


if __name__ == "__main__":
    unittest.main()
