import unittest

from told import HIGHEST, act, asked, begins, goes, happens, last, plan, wants


class HowALineBegins(unittest.TestCase):
    def test_one_fact_is_there_and_no_other(self):
        self.assertEqual(last(wants(1)), [0])
        self.assertEqual(last(wants(2)), [-1])
        self.assertEqual(last(act(1, 1, 1, 1, 1)), [0])
        self.assertEqual(last(act(2, 0, 0, 0, 1)), [-1])

    def test_the_fact_is_not_so(self):
        self.assertEqual(last(goes(1)), [0, 0, 0])

    def test_the_fact_is_not_wanted(self):
        self.assertEqual(last(plan()), [1])

    def test_there_is_no_act(self):
        self.assertEqual(last(plan(0)), [-1])

    def test_there_is_no_rest(self):
        self.assertEqual(last(goes(HIGHEST)), [0, 0, 0])


class Begins(unittest.TestCase):
    def test_each_number_of_facts_from_one_to_five(self):
        for facts in range(1, 6):
            every = (1 << facts) - 1
            calls = (begins(facts, every, every), goes(0), plan(), wants(every), wants(every + 1))
            self.assertEqual(asked(*calls), [[0], [0, every, 0], [1], [1], [-1]])

    def test_numbers_of_facts_that_are_refused(self):
        for facts in (0, 6, 7, 31, 32, 64, HIGHEST):
            self.assertEqual(last(begins(facts, 0, 0)), [-1])

    def test_a_fact_just_beyond_is_so(self):
        for facts in range(1, 6):
            self.assertEqual(last(begins(facts, 1 << facts, 0)), [-1])

    def test_a_fact_just_beyond_is_wanted(self):
        for facts in range(1, 6):
            self.assertEqual(last(begins(facts, 0, 1 << facts)), [-1])

    def test_facts_far_beyond(self):
        self.assertEqual(last(begins(5, HIGHEST, 0)), [-1])
        self.assertEqual(last(begins(5, 0, HIGHEST)), [-1])
        self.assertEqual(last(begins(5, 1 << 31, 0)), [-1])

    def test_what_is_so_and_what_is_wanted_are_not_mixed_up(self):
        calls = (begins(3, 1, 6), goes(0), plan(), happens(6, 0))
        self.assertEqual(asked(*calls), [[0], [0, 1, 0], [0], [1, 7]])

    def test_all_is_set_anew(self):
        calls = (
            begins(3, 1, 6), act(0, 0, 2, 0, 5), act(0, 0, 4, 0, 5), plan(0, 1), goes(1),
            begins(2, 2, 2), goes(5), plan(0), plan(), wants(4), act(0, 0, 1, 0, 1),
        )
        self.assertEqual(asked(*calls)[5:], [[0], [0, 2, 0], [-1], [1], [-1], [0]])

    def test_all_eight_acts_are_free_again(self):
        full = [act(0, 0, 1, 0, 1)] * 8
        calls = [begins(1, 0, 0)] + full + [begins(1, 0, 0)] + full
        self.assertEqual(asked(*calls), 2 * ([[0]] + [[number] for number in range(8)]))

    def test_behind_a_refusal_all_is_as_it_was(self):
        before = (begins(3, 1, 6), act(0, 0, 2, 0, 5), act(2, 0, 4, 0, 5), plan(0, 1))
        after = (goes(1), wants(7), plan(1), wants(8), act(0, 0, 0, 0, 1))
        expected = asked(*before, *after)
        for wrong in (begins(0, 0, 0), begins(6, 0, 0), begins(2, 4, 0), begins(2, 0, 4), begins(4, 0, 16)):
            got = asked(*before, wrong, *after)
            self.assertEqual(got, expected[:4] + [[-1]] + expected[4:])

    def test_behind_a_refusal_at_the_beginning_there_is_still_one_fact(self):
        calls = (begins(6, 1, 1), goes(0), plan(), wants(2))
        self.assertEqual(asked(*calls), [[-1], [0, 0, 0], [1], [-1]])


if __name__ == "__main__":
    unittest.main()
