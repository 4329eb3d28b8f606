import unittest

from tests.helper import ask, every_pair, follows, last, pair_list

TOP = 4294967295


def pairs_behind(text):
    return pair_list(last(text + "; pairs 0"))


class Quantity(unittest.TestCase):
    def test_numbered_from_0(self):
        self.assertEqual(ask("begin; quantity 4; quantity 0; quantity 2; quantity 2; quantity 1")[1:],
                         [[0], [1], [2], [3], [4]])

    def test_too_many_marks(self):
        self.assertEqual(ask(f"begin; quantity 5; quantity {TOP}; may 0; back; quantity 4")[1:],
                         [[-22], [-22], [-2], [-6], [0]])

    def test_the_sixth(self):
        told = ask("begin" + "; quantity 1" * 5 + "; quantity 1; quantity 5; may 5; back; quantity 0; may 4")
        self.assertEqual(told[6:], [[-28], [-22], [-2], [4], [4], [1, 0]])


class Place(unittest.TestCase):
    def test_it_is_there(self):
        self.assertEqual(ask("begin; quantity 2; place 0 3; pairs 0")[2:], [[3], [3, 3, 0, 3, 1, 3, 2]])

    def test_first_and_last_place(self):
        for marks in range(5):
            for place in (0, 2 * marks):
                with self.subTest(marks=marks, place=place):
                    self.assertEqual(ask(f"begin; quantity {marks}; place 0 {place}; may 0")[2:], [[3], [1, place]])

    def test_how_many_of_those_that_might(self):
        self.assertEqual(ask("begin; quantity 2; way 0 2; place 0 3; pairs 0")[3:], [[1], [1, 3, 2]])

    def test_no_such_place(self):
        for marks in range(5):
            with self.subTest(marks=marks):
                told = ask(f"begin; quantity {marks}; place 0 {2 * marks + 1}; place 0 {TOP}; back")
                self.assertEqual(told[2:], [[-22], [-22], [0]])

    def test_it_cannot_be_there(self):
        self.assertEqual(ask("begin; quantity 2; place 0 3; place 0 2; may 0; place 0 5; back; back")[3:],
                         [[-33], [1, 3], [-22], [1], [0]])

    def test_seen_again_is_a_change(self):
        self.assertEqual(ask("begin; quantity 2; place 0 3; place 0 3; back")[2:], [[3], [3], [2]])

    def test_no_such_quantity_first(self):
        self.assertEqual(ask(f"begin; place 0 0; quantity 1; place 1 0; place 1 99; place {TOP} {TOP}"),
                         [[0], [-2], [0], [-2], [-2], [-2]])


class Way(unittest.TestCase):
    def test_it_goes_so(self):
        for direction in range(3):
            with self.subTest(direction=direction):
                self.assertEqual(ask(f"begin; quantity 1; way 0 {direction}; pairs 0")[2:],
                                 [[3], [3, 0, direction, 1, direction, 2, direction]])

    def test_without_marks(self):
        self.assertEqual(ask("begin; quantity 0; way 0 0; pairs 0")[2:], [[1], [1, 0, 0]])

    def test_no_such_direction(self):
        self.assertEqual(ask(f"begin; quantity 4; way 0 3; way 0 {TOP}; back")[2:], [[-22], [-22], [0]])

    def test_it_cannot_go_so(self):
        self.assertEqual(ask("begin; quantity 1; way 0 0; way 0 1; way 0 2; ways 0; way 0 3; back; back")[3:],
                         [[-33], [-33], [1], [-22], [1], [0]])

    def test_seen_again_is_a_change(self):
        self.assertEqual(ask("begin; quantity 1; way 0 2; way 0 2; back")[2:], [[3], [3], [2]])

    def test_no_such_quantity_first(self):
        self.assertEqual(ask(f"begin; way 0 0; quantity 1; way 1 0; way 1 3; way {TOP} {TOP}"),
                         [[0], [-2], [0], [-2], [-2], [-2]])


class Notat(unittest.TestCase):
    def test_it_is_not_there(self):
        self.assertEqual(ask("begin; quantity 1; notat 0 1; pairs 0")[2:],
                         [[6], [6, 0, 0, 0, 1, 0, 2, 2, 0, 2, 1, 2, 2]])

    def test_first_and_last_place(self):
        self.assertEqual(ask("begin; quantity 2; notat 0 0; notat 0 4; may 0")[2:], [[12], [9], [3, 1, 2, 3]])

    def test_where_it_cannot_be_anyway(self):
        self.assertEqual(ask("begin; quantity 2; place 0 3; notat 0 2; may 0; back; back")[3:],
                         [[3], [1, 3], [2], [1]])

    def test_it_can_be_nowhere_else(self):
        self.assertEqual(ask("begin; quantity 2; place 0 3; notat 0 3; may 0; notat 0 5; back")[3:],
                         [[-33], [1, 3], [-22], [1]])

    def test_without_marks(self):
        self.assertEqual(ask("begin; quantity 0; notat 0 0; may 0; back")[2:], [[-33], [1, 0], [0]])

    def test_no_such_place(self):
        for marks in range(5):
            with self.subTest(marks=marks):
                told = ask(f"begin; quantity {marks}; notat 0 {2 * marks + 1}; notat 0 {TOP}; back")
                self.assertEqual(told[2:], [[-22], [-22], [0]])

    def test_no_such_quantity_first(self):
        self.assertEqual(ask(f"begin; notat 0 0; quantity 1; notat 1 0; notat 1 99; notat {TOP} {TOP}"),
                         [[0], [-2], [0], [-2], [-2], [-2]])


class Forget(unittest.TestCase):
    def test_any_pair_may_be(self):
        for marks in range(5):
            with self.subTest(marks=marks):
                many = 3 * (2 * marks + 1)
                told = ask(f"begin; quantity {marks}; pairs 0; place 0 0; way 0 1; forget 0; pairs 0; back; pairs 0")
                self.assertEqual(told[5:], [[many], told[2], [3], [1, 0, 1]])

    def test_only_that_quantity(self):
        self.assertEqual(ask("begin; quantity 1; quantity 1; place 0 1; place 1 2; forget 1; may 0; may 1")[5:],
                         [[9], [1, 1], [3, 0, 1, 2]])

    def test_is_a_change_even_if_all_may_be(self):
        self.assertEqual(ask("begin; quantity 1; forget 0; back")[2:], [[9], [1]])

    def test_the_moment_stays(self):
        self.assertEqual(ask("begin; quantity 1; tick; forget 0; tick")[2:], [[1], [9], [2]])

    def test_no_such_quantity(self):
        self.assertEqual(ask(f"begin; forget 0; quantity 1; forget 1; forget {TOP}; back"),
                         [[0], [-2], [0], [-2], [-2], [0]])


class Tick(unittest.TestCase):
    def test_one_mark_by_hand(self):
        for text, expected in (
                ("0 0", [(0, 0), (0, 1)]),
                ("0 1", [(0, 0), (0, 1), (0, 2)]),
                ("0 2", [(0, 1), (0, 2), (1, 1), (1, 2)]),
                ("1 0", [(0, 0), (0, 1)]),
                ("1 1", [(1, 0), (1, 1), (1, 2)]),
                ("1 2", [(2, 1), (2, 2)]),
                ("2 0", [(1, 0), (1, 1), (2, 0), (2, 1)]),
                ("2 1", [(2, 0), (2, 1), (2, 2)]),
                ("2 2", [(2, 1), (2, 2)])):
            place, direction = text.split()
            with self.subTest(text):
                told = pairs_behind(f"begin; quantity 1; place 0 {place}; way 0 {direction}; tick")
                self.assertEqual(told, expected)

    def test_without_marks(self):
        self.assertEqual(pairs_behind("begin; quantity 0; way 0 2; tick"), [(0, 1), (0, 2)])
        self.assertEqual(pairs_behind("begin; quantity 0; way 0 1; tick"), [(0, 0), (0, 1), (0, 2)])
        self.assertEqual(pairs_behind("begin; quantity 0; way 0 0; tick"), [(0, 0), (0, 1)])

    def test_every_pair(self):
        for marks in range(5):
            everything = every_pair(marks)
            for pair in everything:
                with self.subTest(marks=marks, pair=pair):
                    told = pairs_behind(f"begin; quantity {marks}; place 0 {pair[0]}; way 0 {pair[1]}; tick")
                    self.assertEqual(told, [other for other in everything if follows(marks, pair, other)])

    def test_what_follows_any_that_might(self):
        for marks in range(5):
            everything = every_pair(marks)
            now = [(0, 0), (0, 1), (0, 2)]
            text = f"begin; quantity {marks}; place 0 0"
            for moment in range(1, 21):
                now = [other for other in everything if any(follows(marks, pair, other) for pair in now)]
                text += "; tick"
                with self.subTest(marks=marks, moment=moment):
                    self.assertEqual(pairs_behind(text), now)

    def test_all_may_be_stays_so(self):
        for marks in range(5):
            with self.subTest(marks=marks):
                told = ask(f"begin; quantity {marks}; pairs 0; tick; pairs 0")
                self.assertEqual(told[2], told[4])

    def test_a_mark_left_at_once(self):
        self.assertEqual(last("begin; quantity 2; place 0 1; way 0 2; tick; may 0"), [1, 2])
        self.assertEqual(last("begin; quantity 2; place 0 3; way 0 0; tick; may 0"), [1, 2])
        self.assertEqual(last("begin; quantity 2; place 0 1; way 0 2; tick; place 0 1"), [-33])

    def test_a_mark_at_which_it_is_steady(self):
        self.assertEqual(last("begin; quantity 2; place 0 3; way 0 1; tick; may 0"), [1, 3])

    def test_no_mark_is_jumped_past(self):
        self.assertEqual(last("begin; quantity 2; place 0 0; tick; place 0 2"), [-33])
        self.assertEqual(last("begin; quantity 2; place 0 4; tick; place 0 2"), [-33])

    def test_steady_first(self):
        told = ask("begin; quantity 1; way 0 0; tick; way 0 2; ways 0; tick; way 0 2; tick; way 0 0")
        self.assertEqual(told[3:], [[1], [-33], [3], [2], [3], [3], [-33]])

    def test_every_quantity(self):
        told = ask("begin; quantity 1; quantity 2; place 0 1; way 0 2; place 1 0; way 1 0; tick; may 0; pairs 1")
        self.assertEqual(told[7:], [[1], [1, 2], [2, 0, 0, 0, 1]])

    def test_which_moment_also_without_quantities(self):
        self.assertEqual(ask("begin; tick; tick; quantity 1; tick"), [[0], [1], [2], [0], [3]])

    def test_the_41st_moment(self):
        told = ask("begin; quantity 1; place 0 0; way 0 0" + "; tick" * 41 + "; back; tick; tick; back")
        self.assertEqual(told[4:44], [[moment] for moment in range(1, 41)])
        self.assertEqual(told[44:], [[-28], [39], [40], [-28], [39]])

    def test_the_refused_moment_changes_nothing(self):
        told = ask("begin" + "; tick" * 40 + "; quantity 1; place 0 1; way 0 2; tick; pairs 0; back; pairs 0")
        self.assertEqual(told[44:], [[-28], [1, 1, 2], [39], [3, 1, 0, 1, 1, 1, 2]])


if __name__ == "__main__":
    unittest.main()
