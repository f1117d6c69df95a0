import unittest

from told import HIGHEST, act, asked, begins, did, goes, happens, last, plan, still, wants

# Fact 0 is brought by act 0, fact 1 by act 1 where fact 0 is so, and act 2 takes fact 0 away.
STAIRS = (begins(2, 0, 2), act(0, 0, 1, 0, 3), act(1, 0, 2, 0, 4), act(0, 0, 0, 1, 1))


class Still(unittest.TestCase):
    def test_at_a_line_s_beginning(self):
        self.assertEqual(last(still()), [1, 0, 0])

    def test_with_no_act_and_no_rest(self):
        self.assertEqual(last(begins(3, 5, 0), still()), [1, 0, 5])
        self.assertEqual(last(begins(3, 5, 4), still()), [1, 0, 5])
        self.assertEqual(last(begins(3, 5, 2), still()), [0, 0, 5])
        self.assertEqual(last(begins(3, 5, 6), still()), [0, 0, 5])

    def test_a_rest_that_does(self):
        self.assertEqual(last(*STAIRS, plan(0, 1), still()), [1, 2, 3])
        self.assertEqual(last(*STAIRS, plan(0, 1, 2), still()), [1, 3, 2])

    def test_a_rest_that_comes_to_its_end_and_does_not_bring_what_is_wanted(self):
        self.assertEqual(last(*STAIRS, plan(0), still()), [0, 1, 1])
        self.assertEqual(last(*STAIRS, wants(3), plan(0, 1, 2), still()), [0, 3, 2])

    def test_a_rest_that_stops_at_its_first_act(self):
        self.assertEqual(last(*STAIRS, plan(1), still()), [0, 0, 0])
        self.assertEqual(last(*STAIRS, plan(1, 0, 0), still()), [0, 0, 0])

    def test_a_rest_that_stops_later(self):
        self.assertEqual(last(*STAIRS, plan(0, 2, 1), still()), [0, 2, 0])
        self.assertEqual(last(*STAIRS, plan(0, 0, 0, 2, 1, 0), still()), [0, 4, 0])

    def test_a_rest_that_stops_where_all_wanted_is_so(self):
        self.assertEqual(last(*STAIRS, plan(0, 1, 2, 1), still()), [0, 3, 2])
        self.assertEqual(last(*STAIRS, wants(0), plan(1), still()), [0, 0, 0])

    def test_a_rest_of_eight_acts(self):
        self.assertEqual(last(*STAIRS, plan(*[0] * 7, 1), still()), [1, 8, 3])
        self.assertEqual(last(*STAIRS, plan(*[2] * 7, 1), still()), [0, 7, 0])

    def test_with_what_is_wanted_so_already(self):
        self.assertEqual(last(*STAIRS, happens(2, 0), still()), [1, 0, 2])
        self.assertEqual(last(*STAIRS, happens(2, 0), plan(0), still()), [1, 1, 3])

    def test_with_nothing_wanted(self):
        self.assertEqual(last(*STAIRS, wants(0), plan(0, 2), still()), [1, 2, 0])

    def test_from_the_state_now(self):
        calls = (*STAIRS, plan(0, 1), goes(1), still(), happens(0, 1), still(), happens(1, 0), still())
        self.assertEqual(asked(*calls)[6:], [[1, 1, 3], [0, 0], [0, 0, 0], [1, 1], [1, 1, 3]])

    def test_it_changes_nothing(self):
        for acts in ((0, 1), (1, 0), (0, 2, 1), (2,)):
            before = (*STAIRS, plan(*acts))
            after = (did(), goes(1), did(), wants(1), goes(HIGHEST), did())
            expected = asked(*before, *after)
            got = asked(*before, still(), still(), *after)
            self.assertEqual(got[:5] + got[7:], expected)
            self.assertEqual(got[5], got[6])


if __name__ == "__main__":
    unittest.main()
