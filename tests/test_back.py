import itertools
import unittest

from betweenmarks.changes import back, tick
from betweenmarks.plant import Plant
from tests.helper import ask

PROBE = "; pairs 0; pairs 1; may 0; ways 0; may 1; ways 1"


class Back(unittest.TestCase):
    def test_nothing_to_take_back(self):
        self.assertEqual(ask("begin; back; back; quantity 1; back; back; may 0"),
                         [[0], [-6], [-6], [0], [0], [-6], [-2]])

    def test_each_change(self):
        start = "begin; quantity 2; quantity 1; notat 0 0; tick"
        for change in ("quantity 1", "place 0 3", "way 0 2", "notat 0 2", "tick", "forget 0", "place 1 1"):
            with self.subTest(change):
                plain = ask(start + PROBE + "; tick; quantity 0")
                taken = ask(start + "; " + change + "; back" + PROBE + "; tick; quantity 0")
                self.assertEqual(taken[6], [4])
                self.assertEqual(taken[7:], plain[5:])

    def test_a_moment_taken_back(self):
        told = ask("begin; quantity 1; place 0 1; way 0 2; tick; may 0; back; may 0; pairs 0; tick")
        self.assertEqual(told[4:], [[1], [1, 2], [3], [1, 1], [1, 1, 2], [1]])

    def test_one_behind_another(self):
        told = ask("begin; quantity 1; place 0 0; tick; way 0 2; forget 0; back; pairs 0; back; pairs 0; back; pairs 0;"
                   "back; may 0; back; may 0; back")
        self.assertEqual(told[6:], [
            [4], [2, 0, 2, 1, 2],
            [3], [5, 0, 0, 0, 1, 0, 2, 1, 1, 1, 2],
            [2], [3, 0, 0, 0, 1, 0, 2],
            [1], [3, 0, 1, 2],
            [0], [-2],
            [-6]])

    def test_back_is_no_change(self):
        self.assertEqual(ask("begin; quantity 1; place 0 0; back; back; back; may 0")[3:], [[1], [0], [-6], [-2]])

    def test_a_new_change_behind_one_taken_back(self):
        told = ask("begin; quantity 1; place 0 0; back; place 0 2; back; may 0; back; back")
        self.assertEqual(told[3:], [[1], [3], [1], [3, 0, 1, 2], [0], [-6]])

    def test_what_is_refused_is_no_change(self):
        refused = "; quantity 5; place 1 0; place 0 3; place 0 2; way 0 3; way 0 0; notat 0 3; notat 0 0; forget 1"
        start = "begin; quantity 1; place 0 0; way 0 2"
        plain = ask(start + "; pairs 0; back; pairs 0; back; back; back")
        told = ask(start + refused + "; pairs 0; back; pairs 0; back; back; back")
        self.assertEqual(told[4:13], [[-22], [-2], [-22], [-33], [-22], [-33], [-22], [-33], [-2]])
        self.assertEqual(told[13:], plain[4:])

    def test_the_last_40(self):
        told = ask("begin; quantity 1" + "; forget 0" * 38 + "; place 0 1; back")
        self.assertEqual(told[-1], [39])
        told = ask("begin; quantity 1" + "; forget 0" * 39 + "; place 0 1; back; may 0; back")
        self.assertEqual(told[-3:], [[39], [3, 0, 1, 2], [38]])
        told = ask("begin; quantity 1" + "; forget 0" * 43 + "; place 0 1" + "; back" * 14)
        self.assertEqual(told[-14:], [[left] for left in range(39, 25, -1)])

    def test_a_change_out_of_reach_stays_out_of_reach(self):
        told = ask("begin; quantity 1" + "; forget 0" * 41 + "; back; back; forget 0; back")
        self.assertEqual(told[-4:], [[39], [38], [9], [38]])

    def test_40_and_no_more(self):
        # More calls than one list may hold, so it's asked of the object itself.
        plant = Plant()
        plant.add_quantity(1)
        plant.set_possible(0, [(1, 1)])
        for moment in range(1, 41):
            self.assertEqual(tick(plant, []), [moment])
        for left in range(39, -1, -1):
            self.assertEqual(back(plant, []), [left])
        self.assertEqual(back(plant, []), [-6])
        self.assertEqual((plant.moment, plant.marks, plant.possible), (0, [1], [[(1, 1)]]))


class AllShortLines(unittest.TestCase):
    CALLS = ("quantity 1", "place 0 1", "place 0 0", "way 0 2", "notat 0 1", "tick", "forget 0", "place 0 3", "way 1 1")

    def test_back_undoes_and_refusals_do_nothing(self):
        start = "begin; quantity 2; notat 0 4"
        for length in range(1, 4):
            for chosen in itertools.product(self.CALLS, repeat=length):
                ahead = "; ".join((start,) + chosen[:-1])
                plain = ask(ahead + PROBE + "; tick; back; back")
                told = ask(ahead + "; " + chosen[-1])[-1]
                if told[0] < 0:
                    behind = ask(ahead + "; " + chosen[-1] + PROBE + "; tick; back; back")
                    self.assertEqual(behind[length + 3:], plain[length + 2:], chosen)
                else:
                    behind = ask(ahead + "; " + chosen[-1] + "; back" + PROBE + "; tick; back; back")
                    self.assertEqual(behind[length + 4:], plain[length + 2:], chosen)


if __name__ == "__main__":
    unittest.main()
