import unittest

from betweenmarks.marks import answers
from tests.helper import ask, spell

TOP = 4294967295


class TheList(unittest.TestCase):
    def test_no_call(self):
        self.assertEqual(answers([]), [])

    def test_counts_stand_before_each_answer(self):
        self.assertEqual(
            answers([0, 1, 1, 8, 0, 2, 0, 1, 10, 0, 9, 0, 2, 0, 0]),
            [1, 0, 1, 0, 4, 3, 0, 1, 2, 1, 3, 7, 3, 1, 0, 1, 1, 1, 2, 1, 7, 1, -33])

    def test_what_is_handed_in_stays(self):
        calls = spell("begin; quantity 3; place 0 2; tick; notat 0 2; way 0 1; pairs 0; back; forget 0; may 0")
        copy = list(calls)
        answers(calls)
        self.assertEqual(calls, copy)

    def test_what_is_handed_in_stays_when_it_is_asked(self):
        calls = spell("begin; quantity 3; place 0 2; sure 0; soonest 0 6; path 0 6; between 0 0 0 6 2; next 0 3 1;"
                      "before 0 3 1; run 0 4 2 2 3 2; run 0 3 2 2 3; run 0 0; count 0 6; later 0 40; look 0; state")
        copy = list(calls)
        first = answers(calls)
        self.assertEqual(calls, copy)
        self.assertEqual(answers(calls), first)

    def test_counts_before_answers_that_ask(self):
        self.assertEqual(
            answers(spell("begin; quantity 1; place 0 0; way 0 2; sure 0; soonest 0 2; path 0 1; between 0 0 0 0 2;"
                          "next 0 1 2; before 0 1 2; run 0 4 0 2 1 2; run 0 2 1 1; run 0 1 0; count 0 1; later 0 1;"
                          "look 0; state")),
            [1, 0, 1, 0, 1, 3, 1, 1, 1, 0, 1, 2, 5, 1, 0, 2, 1, 1, 1, 2,
             5, 2, 2, 1, 2, 2, 5, 2, 0, 2, 1, 1, 1, 1, 1, 0, 1, -22, 1, 4, 3, 2, 0, 1,
             4, 1, 1, 1, 4, 3, 0, 1, 3])

    def test_a_second_time_answers_as_the_first(self):
        calls = spell("begin; quantity 3; place 0 2; tick; pairs 0; back; pairs 0; quantity 1; back; back; back; back")
        first = answers(calls)
        answers(spell("begin; quantity 0; quantity 4; tick"))
        self.assertEqual(answers(calls), first)
        self.assertEqual(answers(spell("quantity 1; back")), [1, -11, 1, -11])

    def test_answers_are_a_new_list_of_whole_numbers(self):
        calls = spell("begin; quantity 1; may 0; ways 0; pairs 0; tick; back; place 9 9; run 0 2 0 0; run 0 4 0 0 0 2;"
                      "sure 0; soonest 0 1; path 0 2; between 0 0 0 1 1; next 0 1 1; before 0 1 1; count 0 6;"
                      "later 0 9; look 0; state")
        told = answers(calls)
        self.assertIs(type(told), list)
        self.assertEqual({type(number) for number in told}, {int})
        self.assertIsNot(answers(calls), told)
        told.clear()
        self.assertNotEqual(answers(calls), [])

    def test_sixty_calls(self):
        told = ask("begin; quantity 4" + "; pairs 0" * 58)
        self.assertEqual(len(told), 60)
        self.assertEqual(told[2], told[59])


class BeforeBegin(unittest.TestCase):
    def test_every_other_call(self):
        calls = ("quantity 1", "place 0 0", "way 0 0", "notat 0 0", "tick", "forget 0", "back", "may 0", "ways 0",
                 "pairs 0", "sure 0", "soonest 0 0", "path 0 0", "between 0 0 0 0 0", "next 0 0 0", "before 0 0 0",
                 "run 0 4 0 1 0 1", "run 0 0", "count 0 0", "later 0 0", "look 0", "state")
        for call in calls:
            with self.subTest(call):
                self.assertEqual(ask(call + "; begin; " + "quantity 1; ways 0"), [[-11], [0], [0], [7]])

    def test_ahead_of_all_other_refusals(self):
        for call in ("quantity 5", f"quantity {TOP}", "place 7 99", "way 7 3", f"notat {TOP} {TOP}", "back",
                     f"sure {TOP}", "soonest 7 99", f"path {TOP} {TOP}", "between 7 99 3 99 3", "next 7 99 3",
                     "before 7 99 3", "run 7 3 1 1 1", "run 7 2 99 3", "count 7 7", "later 7 41", "look 7"):
            with self.subTest(call):
                self.assertEqual(ask(call), [[-11]])

    def test_refused_calls_leave_nothing(self):
        self.assertEqual(ask("quantity 1; tick; begin; back; may 0; tick"), [[-11], [-11], [0], [-6], [-2], [1]])

    def test_a_row_may_look_like_calls(self):
        self.assertEqual(ask("run 3 5 0 0 0 0 0; tick"), [[-11], [-11]])
        self.assertEqual(ask(f"run 3 255 {'0 ' * 255}; begin; back"), [[-11], [0], [-6]])
        told = ask("begin; quantity 0; run 0 6 0 1 0 1 0 1; run 0 0; run 0 1 0; state; run 9 2 0 0; tick")
        self.assertEqual(told[2:], [[1], [-22], [-22], [0, 1, 1], [-2], [1]])


class Begin(unittest.TestCase):
    def test_begin(self):
        self.assertEqual(ask("begin; may 0; back"), [[0], [-2], [-6]])

    def test_begin_again_has_nothing_of_before(self):
        self.assertEqual(
            ask("begin; quantity 1; tick; tick; begin; may 0; back; tick; quantity 2; may 0"),
            [[0], [0], [1], [2], [0], [-2], [-6], [1], [0], [5, 0, 1, 2, 3, 4]])


if __name__ == "__main__":
    unittest.main()
