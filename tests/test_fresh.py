import unittest

from told import HIGHEST, act, asked, begins, did, fresh, goes, happens, last, plan, wants


class Fresh(unittest.TestCase):
    def test_at_a_line_s_beginning(self):
        self.assertEqual(last(fresh()), [0])
        self.assertEqual(last(wants(1), fresh()), [-6])

    def test_no_acts_if_all_that_is_wanted_is_so(self):
        self.assertEqual(last(begins(3, 5, 4), fresh()), [0])
        self.assertEqual(last(begins(3, 5, 5), act(0, 0, 7, 0, 1), plan(0), fresh()), [0])

    def test_no_acts_if_nothing_is_wanted(self):
        self.assertEqual(last(begins(3, 0, 0), act(0, 0, 7, 0, 1), plan(0), fresh()), [0])

    def test_one_act(self):
        self.assertEqual(last(begins(1, 0, 1), act(0, 0, 1, 0, 1000), fresh()), [1000, 0])

    def test_the_cheapest_has_more_acts(self):
        rows = (act(0, 0, 2, 0, 10), act(0, 0, 1, 0, 4), act(1, 0, 2, 0, 5))
        self.assertEqual(last(begins(2, 0, 2), *rows, fresh()), [9, 1, 2])

    def test_the_cheapest_has_fewer_acts(self):
        rows = (act(0, 0, 1, 0, 4), act(1, 0, 2, 0, 5), act(0, 0, 2, 0, 8))
        self.assertEqual(last(begins(2, 0, 2), *rows, fresh()), [8, 2])

    def test_the_cheapest_is_not_the_first(self):
        self.assertEqual(last(begins(1, 0, 1), act(0, 0, 1, 0, 3), act(0, 0, 1, 0, 2), fresh()), [2, 1])

    def test_of_the_cheapest_the_first(self):
        self.assertEqual(last(begins(1, 0, 1), act(0, 0, 1, 0, 2), act(0, 0, 1, 0, 2), fresh()), [2, 0])
        rows = (act(0, 0, 2, 0, 1), act(0, 0, 1, 0, 1), act(0, 0, 4, 0, 1))
        self.assertEqual(last(begins(3, 0, 7), *rows, fresh()), [3, 0, 1, 2])

    def test_of_the_cheapest_the_first_by_a_later_place(self):
        rows = (act(0, 0, 1, 0, 1), act(1, 0, 2, 0, 7), act(1, 0, 2, 0, 7))
        self.assertEqual(last(begins(2, 0, 2), *rows, fresh()), [8, 0, 1])

    def test_of_the_cheapest_the_first_though_it_has_more_acts(self):
        rows = (act(0, 0, 1, 0, 2), act(1, 0, 2, 0, 3), act(0, 0, 2, 0, 5))
        self.assertEqual(last(begins(2, 0, 2), *rows, fresh()), [5, 0, 1])

    def test_of_the_cheapest_the_first_though_it_has_fewer_acts(self):
        rows = (act(0, 0, 2, 0, 5), act(0, 0, 1, 0, 2), act(1, 0, 2, 0, 3))
        self.assertEqual(last(begins(2, 0, 2), *rows, fresh()), [5, 0])

    def test_the_first_at_the_first_place_is_what_counts_not_the_last_act(self):
        # Both ways come to the same state: (0, 3) and (1, 2), each for 4.
        rows = (act(0, 0, 1, 0, 2), act(0, 0, 2, 0, 2), act(2, 0, 4, 2, 2), act(1, 0, 4, 1, 2))
        self.assertEqual(last(begins(3, 0, 4), *rows, fresh()), [4, 0, 3])

    def test_what_is_wanted_has_to_be_so_together(self):
        rows = (act(0, 0, 1, 2, 1), act(0, 0, 2, 1, 1))
        self.assertEqual(last(begins(2, 0, 3), *rows, fresh()), [-6])
        self.assertEqual(last(begins(2, 0, 3), *rows, act(1, 0, 2, 0, 9), fresh()), [10, 0, 2])

    def test_a_plan_of_more_acts_than_eight(self):
        rows = [act((1 << fact) - 1, 1 << fact, 1 << fact, (1 << fact) - 1, 1000) for fact in range(5)]
        turns = [(number & -number).bit_length() - 1 for number in range(1, 32)]
        self.assertEqual(last(begins(5, 0, 31), *rows, fresh()), [31000] + turns)

    def test_no_plan(self):
        self.assertEqual(last(begins(2, 0, 2), act(0, 0, 1, 0, 1), fresh()), [-6])
        self.assertEqual(last(begins(2, 0, 2), act(1, 0, 2, 0, 1), fresh()), [-6])
        self.assertEqual(last(begins(2, 1, 2), act(0, 1, 2, 0, 1), plan(0), fresh()), [-6])
        self.assertEqual(last(begins(2, 0, 2), fresh()), [-6])

    def test_from_now(self):
        rows = (act(0, 0, 1, 0, 4), act(1, 0, 2, 0, 5))
        calls = (begins(2, 0, 2), *rows, plan(0), fresh(), goes(1), fresh(), happens(2, 0), fresh(), wants(1), fresh())
        self.assertEqual(asked(*calls)[4:], [[9, 0, 1], [1, 1, 0], [5, 1], [1, 3], [0], [1], [0]])

    def test_it_does_not_hang_on_the_rest(self):
        rows = (act(0, 0, 2, 0, 10), act(0, 0, 1, 0, 4), act(1, 0, 2, 0, 5))
        for acts in ((), (0,), (1, 2), (2, 2, 2), (0,) * 8):
            self.assertEqual(last(begins(2, 0, 2), *rows, plan(*acts), fresh()), [9, 1, 2])

    def test_the_rest_is_as_it_was_refused_or_not(self):
        rows = (act(0, 0, 2, 0, 10), act(0, 0, 1, 0, 4), act(1, 0, 2, 0, 5))
        for wanted in (2, 4, 0):
            before = (begins(3, 0, wanted), *rows, plan(1, 0, 2))
            after = (did(), goes(2), did(), wants(1), goes(HIGHEST), did())
            expected = asked(*before, *after)
            got = asked(*before, fresh(), fresh(), *after)
            self.assertEqual(got[:5] + got[7:], expected)
            self.assertEqual(got[5], got[6])


if __name__ == "__main__":
    unittest.main()
