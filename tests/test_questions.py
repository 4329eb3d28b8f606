import unittest

from tests.helper import ask, last, pair_list

TOP = 4294967295


class May(unittest.TestCase):
    def test_at_first_all_places(self):
        for marks in range(5):
            with self.subTest(marks=marks):
                places = list(range(2 * marks + 1))
                self.assertEqual(last(f"begin; quantity {marks}; may 0"), [len(places)] + places)

    def test_rising_and_each_once(self):
        self.assertEqual(last("begin; quantity 3; notat 0 4; notat 0 0; may 0"), [5, 1, 2, 3, 5, 6])

    def test_one_place(self):
        self.assertEqual(last("begin; quantity 3; place 0 6; may 0"), [1, 6])

    def test_no_such_quantity(self):
        self.assertEqual(ask(f"begin; may 0; quantity 1; may 1; may {TOP}"), [[0], [-2], [0], [-2], [-2]])


class Ways(unittest.TestCase):
    def test_at_first_all(self):
        for marks in range(5):
            with self.subTest(marks=marks):
                self.assertEqual(last(f"begin; quantity {marks}; ways 0"), [7])

    def test_each_alone(self):
        for direction, told in ((0, 1), (1, 2), (2, 4)):
            with self.subTest(direction=direction):
                self.assertEqual(last(f"begin; quantity 2; way 0 {direction}; ways 0"), [told])

    def test_two(self):
        self.assertEqual(last("begin; quantity 2; way 0 0; tick; ways 0"), [3])
        self.assertEqual(last("begin; quantity 2; way 0 2; tick; ways 0"), [6])
        self.assertEqual(last("begin; quantity 1; place 0 0; tick; place 0 1; ways 0"), [6])

    def test_no_such_quantity(self):
        self.assertEqual(ask(f"begin; ways 0; quantity 1; ways 1; ways {TOP}"), [[0], [-2], [0], [-2], [-2]])


class Pairs(unittest.TestCase):
    def test_without_marks(self):
        self.assertEqual(last("begin; quantity 0; pairs 0"), [3, 0, 0, 0, 1, 0, 2])

    def test_at_first_all_in_order(self):
        for marks in range(5):
            with self.subTest(marks=marks):
                told = pair_list(last(f"begin; quantity {marks}; pairs 0"))
                self.assertEqual(told, [(p, d) for p in range(2 * marks + 1) for d in range(3)])

    def test_in_order_behind_a_moment(self):
        told = pair_list(last("begin; quantity 4; place 0 4; way 0 0; tick; pairs 0"))
        self.assertEqual(told, [(3, 0), (3, 1), (4, 0), (4, 1)])

    def test_no_such_quantity(self):
        self.assertEqual(ask(f"begin; pairs 0; quantity 1; pairs 1; pairs {TOP}"), [[0], [-2], [0], [-2], [-2]])


class NothingChanges(unittest.TestCase):
    def test_asking_is_no_change(self):
        self.assertEqual(ask("begin; quantity 1; may 0; ways 0; pairs 0; back; back")[5:], [[0], [-6]])

    def test_each_quantity_by_itself(self):
        told = ask("begin; quantity 1; quantity 2; place 0 1; way 1 2; may 0; may 1; ways 0; ways 1; pairs 0; pairs 1")
        self.assertEqual(told[5:], [
            [1, 1], [5, 0, 1, 2, 3, 4], [7], [4], [3, 1, 0, 1, 1, 1, 2], [5, 0, 2, 1, 2, 2, 2, 3, 2, 4, 2]])


if __name__ == "__main__":
    unittest.main()
