import unittest

from told import HIGHEST, act, asked, begins, did, fresh, goes, happens, last, mend, near, needs, plan, still, wants

# Act k brings fact k where all facts before it are so; act 3 needs fact 3, which none brings.
CHAIN = (
    begins(4, 0, 7),
    act(0, 0, 1, 0, 1), act(1, 0, 2, 0, 20), act(3, 0, 4, 0, 300), act(8, 0, 0, 7, 1000),
)


class Did(unittest.TestCase):
    def test_nothing_is_done_at_the_beginning(self):
        self.assertEqual(last(did()), [0, 0, 0])
        self.assertEqual(last(wants(1), did()), [0, 0, 0])

    def test_nothing_is_done_behind_begins_and_behind_plan(self):
        self.assertEqual(last(begins(3, 5, 2), did()), [0, 5, 0])
        self.assertEqual(last(*CHAIN, plan(0, 1, 2), did()), [0, 0, 3])

    def test_with_what_is_wanted_so_already_and_with_nothing_wanted(self):
        self.assertEqual(last(*CHAIN, happens(7, 0), did()), [0, 7, 0])
        self.assertEqual(last(*CHAIN, wants(0), plan(0), goes(1), did()), [1, 1, 0, 0])

    def test_behind_goes_once(self):
        self.assertEqual(last(*CHAIN, plan(0, 1, 2), goes(0), did()), [0, 0, 3])
        self.assertEqual(last(*CHAIN, plan(0, 1, 2), goes(2), did()), [21, 3, 1, 0, 1])
        self.assertEqual(last(*CHAIN, plan(0, 1, 2), goes(HIGHEST), did()), [321, 7, 0, 0, 1, 2])

    def test_behind_goes_more_than_once(self):
        calls = (*CHAIN, plan(0, 1, 2), goes(1), did(), goes(1), did(), goes(1), did(), goes(1), did())
        self.assertEqual(
            asked(*calls)[7::2],
            [[1, 1, 2, 0], [21, 3, 1, 0, 1], [321, 7, 0, 0, 1, 2], [321, 7, 0, 0, 1, 2]],
        )

    def test_acts_that_could_not_be_done_do_not_count(self):
        self.assertEqual(last(*CHAIN, plan(3, 0), goes(9), did()), [0, 0, 2])
        self.assertEqual(last(*CHAIN, plan(0, 3, 1), goes(9), did()), [1, 1, 2, 0])
        calls = (*CHAIN, plan(0, 3, 1), goes(9), goes(9), happens(8, 0), goes(9), did())
        self.assertEqual(last(*calls), [1001, 8, 1, 0, 3])

    def test_the_same_act_more_than_once(self):
        self.assertEqual(last(*CHAIN, plan(0, 1, 0, 1), goes(9), did()), [42, 3, 0, 0, 1, 0, 1])

    def test_another_plan_leaves_what_was_done(self):
        calls = (*CHAIN, plan(0, 1, 2), goes(1), plan(1), did(), goes(1), plan(), did())
        self.assertEqual(asked(*calls)[8:], [[1, 1, 1, 0], [1, 3, 0], [0], [21, 3, 0, 0, 1]])

    def test_behind_mend(self):
        calls = (*CHAIN, plan(0, 2), goes(1), mend(), did(), goes(9), did())
        self.assertEqual(asked(*calls)[7:], [[1, 320, 1, 2], [1, 1, 2, 0], [2, 7, 0], [321, 7, 0, 0, 1, 2]])

    def test_more_acts_than_a_plan_may_have(self):
        calls = [*CHAIN] + [plan(*[0] * 8), goes(8)] * 5 + [did()]
        self.assertEqual(last(*calls), [40, 1, 0] + [0] * 40)

    def test_what_happens_is_not_done_but_is_the_state_now(self):
        calls = (*CHAIN, plan(0, 1), goes(1), happens(10, 1), did())
        self.assertEqual(last(*calls), [1, 10, 1, 0])
        calls = (*CHAIN, happens(7, 0), did())
        self.assertEqual(last(*calls), [0, 7, 0])

    def test_behind_begins_nothing_was_done(self):
        calls = (*CHAIN, plan(0, 1, 2), goes(2), begins(2, 1, 2), did(), act(0, 0, 2, 0, 7), plan(0), goes(1), did())
        self.assertEqual(asked(*calls)[8:], [[0, 1, 0], [0], [1], [1, 3, 0], [7, 3, 0, 0]])

    def test_behind_a_refused_begins_all_that_was_done_stands(self):
        for wrong in (begins(0, 0, 0), begins(6, 0, 0), begins(2, 4, 0), begins(2, 0, 4)):
            calls = (*CHAIN, plan(0, 1, 2), goes(2), wrong, did())
            self.assertEqual(asked(*calls)[7:], [[-1], [21, 3, 1, 0, 1]])

    def test_what_only_asks_does_nothing(self):
        before = (*CHAIN, plan(0, 1, 2), goes(1))
        for call in (still(), needs(), near(), mend(), fresh(), did(), wants(1), happens(0, 0), goes(0)):
            self.assertEqual(last(*before, call, did()), [1, 1, 2, 0])

    def test_behind_any_refusal_it_is_the_same(self):
        before = (*CHAIN, plan(0, 3, 1), goes(9), wants(8))
        wrongs = (act(), act(0, 0, 0, 0, 0), plan(4), plan(*[0] * 9), happens(16, 0), wants(16), near(), mend(), fresh())
        for wrong in wrongs:
            answered = asked(*before, wrong, did())
            self.assertEqual(answered[-2:], [[answered[-2][0]], [1, 1, 2, 0]])
            self.assertIn(answered[-2][0], (-1, -6))

    def test_the_highest_cost(self):
        calls = [begins(1, 0, 0), act(0, 0, 0, 0, 1000)] + [plan(*[0] * 8), goes(8)] * 28 + [did()]
        self.assertEqual(last(*calls), [224000, 0, 0] + [0] * 224)


if __name__ == "__main__":
    unittest.main()
