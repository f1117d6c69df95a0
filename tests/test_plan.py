import unittest

from told import HIGHEST, act, asked, begins, goes, happens, last, plan, wants

# Fact 0 is brought by act 0, fact 1 by act 1 where fact 0 is so, and act 2 takes fact 0 away.
STAIRS = (begins(2, 0, 2), act(0, 0, 1, 0, 3), act(1, 0, 2, 0, 4), act(0, 0, 0, 1, 1))


class Plan(unittest.TestCase):
    def test_one_that_does(self):
        self.assertEqual(last(*STAIRS, plan(0, 1)), [1])

    def test_one_whose_act_may_not_be_done_when_it_comes(self):
        self.assertEqual(last(*STAIRS, plan(1, 0)), [0])
        self.assertEqual(last(*STAIRS, plan(0, 2, 1)), [0])

    def test_one_whose_last_act_may_not_be_done_though_all_wanted_is_so(self):
        self.assertEqual(last(*STAIRS, plan(0, 1, 2)), [1])
        self.assertEqual(last(*STAIRS, plan(0, 1, 2, 1)), [0])

    def test_one_behind_which_not_all_wanted_is_so(self):
        self.assertEqual(last(*STAIRS, wants(3), plan(0)), [0])
        self.assertEqual(last(*STAIRS, wants(3), plan(0, 1)), [1])
        self.assertEqual(last(*STAIRS, wants(3), plan(0, 1, 2)), [0])

    def test_what_is_wanted_has_to_be_so_at_the_end_alone(self):
        self.assertEqual(last(*STAIRS, wants(0), plan(0, 1)), [1])
        self.assertEqual(last(*STAIRS, wants(1), plan(0, 2, 0)), [1])
        self.assertEqual(last(*STAIRS, wants(1), plan(0, 2)), [0])

    def test_from_the_state_now(self):
        self.assertEqual(last(*STAIRS, plan(1)), [0])
        self.assertEqual(last(*STAIRS, happens(1, 0), plan(1)), [1])
        self.assertEqual(last(*STAIRS, plan(0), goes(1), plan(1)), [1])

    def test_it_is_the_rest_in_either_case(self):
        self.assertEqual(asked(*STAIRS, plan(0, 1), goes(9))[4:], [[1], [2, 3, 0]])
        self.assertEqual(asked(*STAIRS, plan(0, 2, 1), goes(9))[4:], [[0], [2, 0, 1]])

    def test_it_takes_the_place_of_the_rest_before(self):
        self.assertEqual(asked(*STAIRS, plan(0, 1), plan(2), goes(9))[5:], [[0], [1, 0, 0]])
        self.assertEqual(asked(*STAIRS, plan(0, 1), plan(), goes(9))[5:], [[0], [0, 0, 0]])

    def test_planning_does_nothing_yet(self):
        self.assertEqual(asked(*STAIRS, plan(0, 1), goes(0))[4:], [[1], [0, 0, 2]])

    def test_none_at_all(self):
        self.assertEqual(last(*STAIRS, plan()), [0])
        self.assertEqual(last(*STAIRS, happens(2, 0), plan()), [1])

    def test_eight_and_nine_acts(self):
        self.assertEqual(asked(*STAIRS, plan(0, 1, 0, 1, 0, 1, 0, 1), goes(0))[4:], [[1], [0, 0, 8]])
        for count in (9, 10, 11, 12):
            self.assertEqual(last(*STAIRS, plan(*[0] * count)), [-1])

    def test_an_act_that_there_is_not(self):
        for number in (3, 4, 8, HIGHEST):
            self.assertEqual(last(*STAIRS, plan(number)), [-1])
            self.assertEqual(last(*STAIRS, plan(0, number, 1)), [-1])
            self.assertEqual(last(*STAIRS, plan(0, 1, number)), [-1])
        self.assertEqual(last(*STAIRS, plan(2)), [0])

    def test_behind_a_refusal_the_rest_is_as_it_was(self):
        for wrong in (plan(3), plan(0, 3), plan(*[2] * 9), plan(*[3] * 12)):
            calls = (*STAIRS, plan(0, 1), wrong, wants(2), goes(1), goes(9))
            self.assertEqual(asked(*calls)[4:], [[1], [-1], [1], [1, 1, 1], [1, 3, 0]])


if __name__ == "__main__":
    unittest.main()
