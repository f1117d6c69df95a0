import unittest

from told import HIGHEST, act, asked, begins, goes, last, plan, wants

FREE = (0, 0, 0, 0, 1)


class Act(unittest.TestCase):
    def test_acts_are_numbered_as_told(self):
        calls = [begins(2, 0, 0)] + [act(*FREE)] * 8
        self.assertEqual(asked(*calls), [[0]] + [[number] for number in range(8)])

    def test_the_ninth_is_refused(self):
        calls = [act(*FREE)] * 8 + [act(*FREE)]
        self.assertEqual(last(*calls), [-7])

    def test_the_ninth_is_refused_so_whatever_its_row(self):
        wrong_rows = ((), (0, 0, 0, 1), (0,) * 6, (2, 0, 0, 0, 1), (0, 0, 0, 0, 0), (0, 0, 0, 0, 1001), (1,) * 12)
        for row in wrong_rows:
            self.assertEqual(last(*[act(*FREE)] * 8, act(*row)), [-7])
            self.assertEqual(last(*[act(*FREE)] * 7, act(*row)), [-1])

    def test_a_refused_row_takes_no_number(self):
        calls = (act(*FREE), act(0, 0, 0, 0, 0), act(), act(*FREE), plan(2), plan(1))
        self.assertEqual(asked(*calls), [[0], [-1], [-1], [1], [-1], [1]])

    def test_the_ninth_changes_nothing(self):
        calls = [begins(1, 0, 1)] + [act(*FREE)] * 8 + [act(0, 0, 1, 0, 1), plan(8), plan(7), wants(0)]
        self.assertEqual(asked(*calls)[9:], [[-7], [-1], [0], [1]])

    def test_rows_that_have_not_five_numbers(self):
        for count in (0, 1, 2, 3, 4, 6, 7, 8, 9, 10, 11, 12):
            self.assertEqual(last(begins(1, 0, 0), act(*[1] * count)), [-1])
        self.assertEqual(last(begins(1, 0, 0), act(*[1] * 5)), [0])

    def test_what_stands_behind_a_refused_row_is_read_from_its_end(self):
        for count in (0, 4, 6, 12):
            self.assertEqual(asked(act(*[5] * count), wants(0), wants(1)), [[-1], [1], [0]])

    def test_costs(self):
        for cost in (1, 2, 999, 1000):
            self.assertEqual(last(act(0, 0, 0, 0, cost)), [0])
        for cost in (0, 1001, HIGHEST):
            self.assertEqual(last(act(0, 0, 0, 0, cost)), [-1])

    def test_a_fact_just_beyond_in_each_place(self):
        for facts in range(1, 6):
            for place in range(4):
                for beyond in (1 << facts, (1 << facts) + 1, HIGHEST):
                    row = list(FREE)
                    row[place] = beyond
                    self.assertEqual(last(begins(facts, 0, 0), act(*row)), [-1])
                row = list(FREE)
                row[place] = (1 << facts) - 1
                self.assertEqual(last(begins(facts, 0, 0), act(*row)), [0])


class WhenAnActMayBeDone(unittest.TestCase):
    def gone(self, state, row):
        return last(begins(3, state, 0), act(*row), plan(0), goes(1))

    def test_all_that_it_needs_has_to_be_so(self):
        for state in range(8):
            expected = [1, state, 0] if state in (5, 7) else [0, state, 1]
            self.assertEqual(self.gone(state, (5, 0, 0, 0, 1)), expected)

    def test_none_that_must_not_be_may_be_so(self):
        for state in range(8):
            expected = [1, state, 0] if state in (0, 2) else [0, state, 1]
            self.assertEqual(self.gone(state, (0, 5, 0, 0, 1)), expected)

    def test_both_together(self):
        for state in range(8):
            expected = [1, state, 0] if state in (1, 5) else [0, state, 1]
            self.assertEqual(self.gone(state, (1, 2, 0, 0, 1)), expected)

    def test_one_that_needs_what_must_not_be_can_never_be_done(self):
        for state in range(8):
            self.assertEqual(self.gone(state, (1, 1, 2, 0, 1)), [0, state, 1])


class WhatIsSoBehindAnAct(unittest.TestCase):
    def state_behind(self, state, brought, taken):
        return last(begins(3, state, 0), act(0, 0, brought, taken, 1), plan(0), goes(1))[1]

    def test_each_fact_in_each_case(self):
        for state in range(8):
            for brought in range(8):
                for taken in range(8):
                    expected = sum(
                        1 << fact for fact in range(3)
                        if brought >> fact & 1 or (state >> fact & 1 and not taken >> fact & 1)
                    )
                    self.assertEqual(self.state_behind(state, brought, taken), expected)

    def test_a_fact_brought_and_taken_away_is_so(self):
        self.assertEqual(self.state_behind(0, 2, 2), 2)
        self.assertEqual(self.state_behind(2, 2, 2), 2)

    def test_taking_away_what_is_not_so_leaves_it(self):
        self.assertEqual(self.state_behind(1, 0, 6), 1)


if __name__ == "__main__":
    unittest.main()
