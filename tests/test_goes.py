import unittest

from mendedplans.house import House, answer_act, answer_begins, answer_goes, answer_plan
from told import HIGHEST, act, asked, begins, goes, happens, last, plan, wants

# Act k brings fact k where all facts before it are so; act 3 needs fact 3, which none brings.
CHAIN = (
    begins(4, 0, 7),
    act(0, 0, 1, 0, 1), act(1, 0, 2, 0, 2), act(3, 0, 4, 0, 3), act(8, 0, 0, 7, 4),
)


class Goes(unittest.TestCase):
    def test_with_none(self):
        self.assertEqual(last(*CHAIN, plan(0, 1, 2), goes(0)), [0, 0, 3])

    def test_with_fewer_than_the_rest_has(self):
        self.assertEqual(last(*CHAIN, plan(0, 1, 2), goes(1)), [1, 1, 2])
        self.assertEqual(last(*CHAIN, plan(0, 1, 2), goes(2)), [2, 3, 1])

    def test_with_as_many_as_the_rest_has(self):
        self.assertEqual(last(*CHAIN, plan(0, 1, 2), goes(3)), [3, 7, 0])

    def test_with_more_than_the_rest_has(self):
        for most in (4, 60, HIGHEST):
            self.assertEqual(last(*CHAIN, plan(0, 1, 2), goes(most)), [3, 7, 0])

    def test_with_no_rest(self):
        self.assertEqual(last(*CHAIN, goes(5)), [0, 0, 0])

    def test_one_behind_another(self):
        calls = (*CHAIN, plan(0, 1, 2), goes(1), goes(1), goes(0), goes(5), goes(5))
        self.assertEqual(asked(*calls)[6:], [[1, 1, 2], [1, 3, 1], [0, 3, 1], [1, 7, 0], [0, 7, 0]])

    def test_an_act_that_can_not_be_done_stays_with_all_behind_it(self):
        calls = (*CHAIN, plan(0, 3, 1, 2), goes(9), goes(9), happens(8, 0), goes(9))
        self.assertEqual(asked(*calls)[6:], [[1, 1, 3], [0, 1, 3], [0, 9], [1, 8, 2]])

    def test_a_first_act_that_can_not_be_done(self):
        self.assertEqual(last(*CHAIN, plan(3, 0), goes(9)), [0, 0, 2])

    def test_an_act_that_can_not_be_done_beyond_so_many_does_not_matter(self):
        self.assertEqual(last(*CHAIN, plan(0, 3), goes(1)), [1, 1, 1])

    def test_it_goes_on_though_the_rest_does_not_do(self):
        self.assertEqual(asked(*CHAIN, plan(0, 1), goes(9))[5:], [[0], [2, 3, 0]])

    def test_the_rest_is_judged_from_the_state_that_it_has_come_to(self):
        calls = (*CHAIN, plan(0, 1, 2), goes(2), wants(7), happens(0, 1), goes(1))
        self.assertEqual(asked(*calls)[6:], [[2, 3, 1], [1], [0, 2], [0, 2, 1]])

    def test_the_same_act_more_than_once(self):
        self.assertEqual(last(*CHAIN, plan(0, 0, 0, 1, 1), goes(4)), [4, 3, 1])


class WhatWasDone(unittest.TestCase):
    def gone_house(self):
        house = House()
        answer_begins(house, [2, 0, 2])
        answer_act(house, [0, 0, 1, 0, 3])
        answer_act(house, [2, 0, 2, 0, 4])
        answer_plan(house, [0, 0, 1])
        answer_goes(house, [1])
        answer_goes(house, [5])
        return house

    def test_nothing_at_first(self):
        self.assertEqual(House().done, [])

    def test_acts_that_were_done_are_kept_in_order(self):
        self.assertEqual(self.gone_house().done, [0, 0])

    def test_behind_begins_nothing_was_done(self):
        house = self.gone_house()
        answer_begins(house, [6, 0, 0])
        self.assertEqual(house.done, [0, 0])
        answer_begins(house, [2, 0, 0])
        self.assertEqual(house.done, [])


if __name__ == "__main__":
    unittest.main()
