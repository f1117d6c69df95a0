import unittest

from told import HIGHEST, act, asked, begins, goes, happens, last, plan, wants

# Act 0 brings fact 1 where fact 0 is so and fact 2 isn't.
DOOR = (begins(3, 1, 2), act(1, 4, 2, 0, 1), plan(0))


class Happens(unittest.TestCase):
    def test_each_fact_in_each_case(self):
        for state in range(8):
            for so in range(8):
                for not_so in range(8):
                    expected = sum(
                        1 << fact for fact in range(3)
                        if so >> fact & 1 or (state >> fact & 1 and not not_so >> fact & 1)
                    )
                    self.assertEqual(last(begins(3, state, 0), happens(so, not_so)), [1, expected])

    def test_a_fact_told_twice_is_so(self):
        self.assertEqual(last(begins(3, 0, 0), happens(2, 2)), [1, 2])
        self.assertEqual(last(begins(3, 2, 0), happens(2, 2)), [1, 2])
        self.assertEqual(last(begins(3, 5, 0), happens(3, 6)), [1, 3])

    def test_the_rest_does_still(self):
        self.assertEqual(last(*DOOR, happens(0, 0)), [1, 1])
        self.assertEqual(last(*DOOR, happens(2, 4)), [1, 3])

    def test_the_rest_does_no_more(self):
        self.assertEqual(last(*DOOR, happens(0, 1)), [0, 0])
        self.assertEqual(last(*DOOR, happens(4, 0)), [0, 5])

    def test_the_rest_does_again(self):
        self.assertEqual(asked(*DOOR, happens(4, 1), happens(1, 4))[3:], [[0, 4], [1, 1]])

    def test_it_is_the_state_from_then_on(self):
        calls = (*DOOR, happens(4, 0), goes(1), happens(0, 4), goes(1))
        self.assertEqual(asked(*calls)[4:], [[0, 5, 1], [1, 1], [1, 3, 0]])

    def test_a_rest_of_none_does_if_all_wanted_is_so(self):
        self.assertEqual(last(begins(2, 0, 3), happens(1, 0)), [0, 1])
        self.assertEqual(last(begins(2, 0, 3), happens(3, 0)), [1, 3])

    def test_facts_that_there_are_not(self):
        for facts in range(1, 6):
            for beyond in (1 << facts, (1 << facts) + 1, 1 << 31, HIGHEST):
                self.assertEqual(last(begins(facts, 0, 0), happens(beyond, 0)), [-1])
                self.assertEqual(last(begins(facts, 0, 0), happens(0, beyond)), [-1])
                self.assertEqual(last(begins(facts, 0, 0), happens(beyond, beyond)), [-1])
            every = (1 << facts) - 1
            self.assertEqual(last(begins(facts, 0, 0), happens(every, every)), [1, every])

    def test_behind_a_refusal_all_is_as_it_was(self):
        for wrong in (happens(8, 0), happens(12, 1), happens(4, 9), happens(HIGHEST, HIGHEST)):
            calls = (*DOOR, wrong, wants(2), goes(0), goes(1))
            self.assertEqual(asked(*calls)[3:], [[-1], [1], [0, 1, 1], [1, 3, 0]])


class Wants(unittest.TestCase):
    def test_it_may_change_whether_the_rest_does(self):
        calls = (*DOOR, wants(4), wants(3), wants(7), wants(0))
        self.assertEqual(asked(*calls)[2:], [[1], [0], [1], [0], [1]])

    def test_a_rest_that_can_not_be_done_does_not_though_nothing_is_wanted(self):
        self.assertEqual(last(*DOOR, happens(4, 0), wants(0)), [0])

    def test_it_is_wanted_from_then_on(self):
        self.assertEqual(asked(*DOOR, wants(4), plan(0), happens(0, 0))[3:], [[0], [0], [0, 1]])
        self.assertEqual(asked(*DOOR, wants(4), happens(4, 0), plan())[3:], [[0], [0, 5], [1]])

    def test_it_changes_neither_the_state_nor_the_rest(self):
        self.assertEqual(asked(*DOOR, wants(4), goes(0), goes(1))[3:], [[0], [0, 1, 1], [1, 3, 0]])

    def test_facts_that_there_are_not(self):
        for facts in range(1, 6):
            for beyond in (1 << facts, (1 << facts) + 1, 1 << 31, HIGHEST):
                self.assertEqual(last(begins(facts, 0, 0), wants(beyond)), [-1])
            self.assertEqual(last(begins(facts, 0, 0), wants((1 << facts) - 1)), [0])

    def test_behind_a_refusal_the_same_is_wanted(self):
        for wrong in (wants(8), wants(9), wants(HIGHEST)):
            self.assertEqual(asked(*DOOR, wrong, plan(0), plan())[3:], [[-1], [1], [0]])


if __name__ == "__main__":
    unittest.main()
