import unittest

from tests.helper import ask, last, pair_list, situations

TOP = 4294967295


class May(unittest.TestCase):
    def test_at_first_all_places(self):
        for marks in range(5):
            with self.subTest(marks=marks):
                places = list(range(2 * marks + 1))
                self.assertEqual(last(f"begin; quantity {marks}; may 0"), [len(places)] + places)

    def test_rising_and_each_once(self):
        self.assertEqual(last("begin; quantity 3; notat 0 4; notat 0 0; may 0"), [5, 1, 2, 3, 5, 6])

    def test_one_place(self):
        self.assertEqual(last("begin; quantity 3; place 0 6; may 0"), [1, 6])

    def test_no_such_quantity(self):
        self.assertEqual(ask(f"begin; may 0; quantity 1; may 1; may {TOP}"), [[0], [-2], [0], [-2], [-2]])


class Ways(unittest.TestCase):
    def test_at_first_all(self):
        for marks in range(5):
            with self.subTest(marks=marks):
                self.assertEqual(last(f"begin; quantity {marks}; ways 0"), [7])

    def test_each_alone(self):
        for direction, told in ((0, 1), (1, 2), (2, 4)):
            with self.subTest(direction=direction):
                self.assertEqual(last(f"begin; quantity 2; way 0 {direction}; ways 0"), [told])

    def test_two(self):
        self.assertEqual(last("begin; quantity 2; way 0 0; tick; ways 0"), [3])
        self.assertEqual(last("begin; quantity 2; way 0 2; tick; ways 0"), [6])
        self.assertEqual(last("begin; quantity 1; place 0 0; tick; place 0 1; ways 0"), [6])

    def test_no_such_quantity(self):
        self.assertEqual(ask(f"begin; ways 0; quantity 1; ways 1; ways {TOP}"), [[0], [-2], [0], [-2], [-2]])


class Pairs(unittest.TestCase):
    def test_without_marks(self):
        self.assertEqual(last("begin; quantity 0; pairs 0"), [3, 0, 0, 0, 1, 0, 2])

    def test_at_first_all_in_order(self):
        for marks in range(5):
            with self.subTest(marks=marks):
                told = pair_list(last(f"begin; quantity {marks}; pairs 0"))
                self.assertEqual(told, [(p, d) for p in range(2 * marks + 1) for d in range(3)])

    def test_in_order_behind_a_moment(self):
        told = pair_list(last("begin; quantity 4; place 0 4; way 0 0; tick; pairs 0"))
        self.assertEqual(told, [(3, 0), (3, 1), (4, 0), (4, 1)])

    def test_no_such_quantity(self):
        self.assertEqual(ask(f"begin; pairs 0; quantity 1; pairs 1; pairs {TOP}"), [[0], [-2], [0], [-2], [-2]])


class Sure(unittest.TestCase):
    def test_at_which_place(self):
        for marks in range(5):
            for place in range(2 * marks + 1):
                with self.subTest(marks=marks, place=place):
                    self.assertEqual(last(f"begin; quantity {marks}; place 0 {place}; sure 0"), [place])

    def test_several_directions_at_one_place(self):
        self.assertEqual(ask("begin; quantity 3; place 0 5; sure 0; way 0 1; sure 0")[3:], [[5], [1], [5]])

    def test_without_marks_always(self):
        self.assertEqual(ask("begin; quantity 0; sure 0; tick; sure 0")[2:], [[0], [1], [0]])

    def test_several_places(self):
        self.assertEqual(ask("begin; quantity 1; sure 0; notat 0 0; sure 0; notat 0 2; sure 0; forget 0; sure 0")[2:],
                         [[-33], [6], [-33], [3], [1], [9], [-33]])

    def test_one_direction_at_several_places(self):
        self.assertEqual(last("begin; quantity 1; way 0 1; sure 0"), [-33])

    def test_a_mark_left_at_once(self):
        self.assertEqual(ask("begin; quantity 2; place 0 1; way 0 2; tick; sure 0; tick; sure 0; back; sure 0")[5:],
                         [[2], [2], [-33], [4], [2]])

    def test_a_mark_at_which_it_is_steady(self):
        self.assertEqual(ask("begin; quantity 2; place 0 3; way 0 1; tick; sure 0; tick; sure 0")[5:],
                         [[3], [2], [-33]])

    def test_no_such_quantity_first(self):
        self.assertEqual(ask(f"begin; sure 0; quantity 1; sure 1; sure {TOP}; sure 0"),
                         [[0], [-2], [0], [-2], [-2], [-33]])


class Later(unittest.TestCase):
    def test_0_is_as_may(self):
        for marks, text in situations():
            with self.subTest(text):
                told = ask(text + "; may 0; later 0 0")
                self.assertEqual(told[-1], told[-2])

    def test_as_may_behind_so_many_moments(self):
        for marks, text in situations():
            asked = ask(text + "".join(f"; later 0 {moments}" for moments in range(13)))[-13:]
            gone = ask(text + "; may 0" + "; tick; may 0" * 12)[-25::2]
            with self.subTest(text):
                self.assertEqual(asked, gone)

    def test_by_hand(self):
        told = ask("begin; quantity 2; place 0 1; way 0 2; later 0 0; later 0 1; later 0 2; later 0 3; later 0 4;"
                   "may 0")
        self.assertEqual(told[4:], [[1, 1], [1, 2], [2, 2, 3], [4, 1, 2, 3, 4], [5, 0, 1, 2, 3, 4], [1, 1]])

    def test_without_marks(self):
        self.assertEqual(ask("begin; quantity 0; way 0 2; later 0 0; later 0 1; later 0 40")[3:], [[1, 0]] * 3)

    def test_at_most_40_moments(self):
        self.assertEqual(ask(f"begin; quantity 1; place 0 0; later 0 40; later 0 41; later 0 {TOP}; later 0 39")[3:],
                         [[3, 0, 1, 2], [-22], [-22], [3, 0, 1, 2]])

    def test_also_behind_the_last_moment(self):
        told = ask("begin; quantity 1; quantity 1" + "; tick" * 40
                   + "; place 1 1; way 1 0; tick; later 1 1; later 1 40")
        self.assertEqual(told[-3:], [[-28], [1, 0], [3, 0, 1, 2]])

    def test_no_such_quantity_first(self):
        self.assertEqual(ask(f"begin; later 0 0; later 0 41; quantity 1; later 1 0; later 1 41; later {TOP} {TOP}"),
                         [[0], [-2], [-2], [0], [-2], [-2], [-2]])


class Look(unittest.TestCase):
    def test_at_first(self):
        for marks in range(5):
            with self.subTest(marks=marks):
                places = 2 * marks + 1
                self.assertEqual(last(f"begin; quantity {marks}; look 0"), [marks, 3 * places, places, 7])

    def test_what_is_seen(self):
        told = ask("begin; quantity 4; place 0 3; look 0; way 0 2; look 0; tick; look 0; tick; look 0; back; look 0")
        self.assertEqual(told[3:], [[4, 3, 1, 7], [1], [4, 1, 1, 4], [1], [4, 2, 1, 6], [2], [4, 5, 2, 7],
                                    [4], [4, 2, 1, 6]])

    def test_as_the_calls_beside_it(self):
        for marks, text in situations():
            with self.subTest(text):
                pairs, may, ways, look = ask(text + "; pairs 0; may 0; ways 0; look 0")[-4:]
                self.assertEqual(look, [marks, pairs[0], may[0], ways[0]])

    def test_each_quantity_by_itself(self):
        told = ask("begin; quantity 1; quantity 0; quantity 3; place 0 1; way 2 0; look 2; look 1; look 0")
        self.assertEqual(told[6:], [[3, 7, 7, 1], [0, 3, 1, 7], [1, 3, 1, 7]])

    def test_no_such_quantity(self):
        self.assertEqual(ask(f"begin; look 0; quantity 1; look 1; look {TOP}"), [[0], [-2], [0], [-2], [-2]])


class State(unittest.TestCase):
    def test_at_first(self):
        self.assertEqual(last("begin; state"), [0, 0, 0])

    def test_each_change_counts(self):
        told = ask("begin; quantity 1; state; quantity 2; state; place 1 1; state; way 1 2; state; notat 0 1; state;"
                   "tick; state; forget 0; state; tick; state")
        self.assertEqual(told[2::2], [[0, 1, 1], [0, 2, 2], [0, 2, 3], [0, 2, 4], [0, 2, 5], [1, 2, 6], [1, 2, 7],
                                      [2, 2, 8]])

    def test_behind_back(self):
        told = ask("begin; quantity 1; tick; quantity 2; tick; back; state; back; state; back; state; back; state;"
                   "back; state; tick; state")
        self.assertEqual(told[6::2], [[1, 2, 3], [1, 1, 2], [0, 1, 1], [0, 0, 0], [0, 0, 0], [1, 0, 1]])

    def test_behind_more_than_40_changes(self):
        start = "begin; quantity 1" + "; forget 0" * 38
        told = ask(start + "; state; tick; state; tick; state; tick; state; back; state; back; state; tick; state")
        self.assertEqual(told[-13::2], [[0, 1, 39], [1, 1, 40], [2, 1, 40], [3, 1, 40], [2, 1, 39], [1, 1, 38],
                                        [2, 1, 39]])

    def test_behind_the_41st_moment(self):
        self.assertEqual(ask("begin" + "; tick" * 41 + "; state; back; state")[-3:], [[40, 0, 40], [39], [39, 0, 39]])

    def test_what_is_refused_does_not_count(self):
        told = ask("begin; quantity 1; place 0 1; quantity 5; place 0 0; way 0 3; notat 0 1; forget 1; place 0 3;"
                   "state")
        self.assertEqual(told[-1], [0, 1, 2])

    def test_behind_a_second_begin(self):
        self.assertEqual(last("begin; quantity 1; tick; begin; state"), [0, 0, 0])


class NothingChanges(unittest.TestCase):
    ASKED = ("may 0", "ways 0", "pairs 0", "sure 0", "sure 1", "soonest 0 4", "path 0 4", "between 0 0 0 4 2",
             "next 0 1 2", "before 0 1 2", "run 0 4 1 1 1 2", "count 0 6", "later 0 40", "look 0", "state",
             "sure 2", "soonest 0 5", "path 0 5", "between 0 0 0 0 3", "next 0 5 0", "before 0 0 3", "run 0 1 0",
             "run 0 0", "count 0 7", "later 0 41", "look 2")
    START = "begin; quantity 2; quantity 1; place 0 1; tick; notat 0 0; tick"
    PROBE = "; state; pairs 0; pairs 1; back; state; pairs 0; pairs 1; back; pairs 0; back; pairs 0; back; pairs 0"

    def test_asking_is_no_change(self):
        self.assertEqual(ask("begin; quantity 1; may 0; ways 0; pairs 0; back; back")[5:], [[0], [-6]])

    def test_each_that_asks(self):
        plain = ask(self.START + self.PROBE)
        for call in self.ASKED:
            with self.subTest(call):
                told = ask(self.START + "; " + call + self.PROBE)
                self.assertEqual(told[:7] + told[8:], plain)

    def test_all_that_ask(self):
        plain = ask(self.START + self.PROBE)
        told = ask(self.START + "; " + "; ".join(self.ASKED) + self.PROBE)
        self.assertEqual(told[7 + len(self.ASKED):], plain[7:])

    def test_asked_twice(self):
        for call in self.ASKED:
            with self.subTest(call):
                told = ask(self.START + "; " + call + "; " + call)
                self.assertEqual(told[-1], told[-2])

    def test_each_quantity_by_itself(self):
        told = ask("begin; quantity 1; quantity 2; place 0 1; way 1 2; may 0; may 1; ways 0; ways 1; pairs 0; pairs 1")
        self.assertEqual(told[5:], [
            [1, 1], [5, 0, 1, 2, 3, 4], [7], [4], [3, 1, 0, 1, 1, 1, 2], [5, 0, 2, 1, 2, 2, 2, 3, 2, 4, 2]])


if __name__ == "__main__":
    unittest.main()
