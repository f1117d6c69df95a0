import unittest

from told import HIGHEST, act, asked, begins, did, fresh, goes, happens, last, mend, near, plan, still, wants

# Acts 0, 1 and 2 bring facts 0, 1 and 2, each where the fact before is so and its own isn't; act 3 needs fact 3,
# which none brings; act 4 brings fact 2 at once, for less, where fact 3 isn't so.
CHAIN = (
    begins(4, 0, 4),
    act(0, 1, 1, 0, 5), act(1, 2, 2, 0, 6), act(2, 4, 4, 0, 7), act(8, 0, 0, 0, 1), act(0, 12, 4, 0, 1),
)
THREE = [18, 0, 1, 2]

# With an act 3 that brings fact 1 at once, a rest of act 0 is as near to (1, 0, 2) as to (3).
TWO_WAYS = (begins(2, 0, 2), act(1, 0, 0, 0, 1), act(0, 0, 1, 0, 1), act(1, 0, 2, 0, 1))


def counter(facts, cost):
    """Acts that count up in twos: from no fact to all of them there is one way, through every state."""
    return [act((1 << fact) - 1, 1 << fact, 1 << fact, (1 << fact) - 1, cost) for fact in range(facts)]


def turns(facts):
    return [(number & -number).bit_length() - 1 for number in range(1, 1 << facts)]


class NearAndMend(unittest.TestCase):
    """Each is asked by near and by mend, which answer alike."""

    def check(self, calls, expected):
        for ask in (near, mend):
            self.assertEqual(last(*calls, ask()), expected)

    def test_at_a_line_s_beginning(self):
        self.check((), [0, 0])
        self.check((wants(1),), [-6])

    def test_with_no_act_and_no_rest(self):
        self.check((begins(3, 5, 4),), [0, 0])
        self.check((begins(3, 5, 0),), [0, 0])
        self.check((begins(3, 5, 2),), [-6])

    def test_the_rest_itself_if_it_does(self):
        self.check((*CHAIN, plan(0, 1, 2)), [0] + THREE)
        self.check((*CHAIN, plan(4)), [0, 1, 4])

    def test_the_rest_itself_though_there_is_a_cheaper_plan(self):
        self.check((*CHAIN, plan(0, 4, 1)), [0, 12, 0, 4, 1])
        self.check((*CHAIN, wants(0), plan(0, 1, 2)), [0] + THREE)

    def test_the_rest_itself_with_what_is_wanted_so_already(self):
        self.check((*CHAIN, happens(4, 0), plan(0, 1)), [0, 11, 0, 1])
        self.check((*CHAIN, happens(4, 0), plan()), [0, 0])

    def test_a_row_of_eight_acts_that_does(self):
        rows = (act(0, 0, 1, 0, 9), act(0, 0, 0, 1, 8))
        self.check((begins(1, 0, 1), *rows, plan(0, 1, 0, 1, 0, 1, 1, 0)), [0, 68, 0, 1, 0, 1, 0, 1, 1, 0])

    def test_an_act_left_out(self):
        for acts in ((3, 0, 1, 2), (0, 3, 1, 2), (0, 1, 3, 2), (0, 1, 2, 3)):
            self.check((*CHAIN, plan(*acts)), [1] + THREE)

    def test_more_acts_left_out(self):
        self.check((*CHAIN, plan(0, 3, 3, 1, 2, 3)), [3] + THREE)
        self.check((*CHAIN, plan(*[3] * 8), happens(4, 0)), [8, 0])

    def test_acts_left_out_with_nothing_wanted(self):
        self.check((*CHAIN, wants(0), plan(3, 0, 3, 2)), [3, 5, 0])

    def test_as_few_acts_left_out_as_can_be(self):
        # Act 1 has to be left out, or all three behind it that mustn't find fact 0.
        rows = (act(0, 1, 0, 0, 1), act(0, 0, 1, 0, 1))
        self.check((begins(1, 0, 0), *rows, plan(1, 0, 0, 0)), [1, 3, 0, 0, 0])
        self.check((begins(1, 0, 0), *rows, plan(0, 0, 0, 1)), [0, 4, 0, 0, 0, 1])

    def test_an_act_put_in_ahead_of_the_rest_s_acts(self):
        self.check((*CHAIN, plan(1, 2)), [1] + THREE)

    def test_an_act_put_in_between_the_rest_s_acts(self):
        self.check((*CHAIN, plan(0, 2)), [1] + THREE)

    def test_an_act_put_in_behind_the_rest_s_acts(self):
        calls = (begins(2, 0, 2), act(0, 0, 1, 0, 5), act(1, 0, 2, 0, 6))
        self.check((*calls, plan(0)), [1, 11, 0, 1])

    def test_more_acts_put_in(self):
        bare = CHAIN[:-1]
        self.check((*bare, plan(0)), [2] + THREE)
        self.check((*bare, plan(1)), [2] + THREE)
        self.check((*bare, plan(2)), [2] + THREE)
        self.check((*bare, plan()), [3] + THREE)

    def test_acts_left_out_and_put_in(self):
        self.check((*CHAIN[:-1], plan(0, 3, 2)), [2] + THREE)
        self.check((*CHAIN[:-1], plan(3, 1, 3)), [4] + THREE)

    def test_an_act_that_stands_elsewhere_is_left_out_and_put_in(self):
        self.check((*CHAIN[:-1], plan(1, 0, 2)), [2] + THREE)
        self.check((*CHAIN[:-1], plan(1, 2, 0)), [2] + THREE)
        self.check((*CHAIN[:-1], plan(2, 1, 0)), [4] + THREE)

    def test_nearer_counts_more_than_cheaper(self):
        calls = (*CHAIN, plan(0, 2))
        self.check(calls, [1] + THREE)
        self.assertEqual(last(*calls, fresh()), [1, 4])

    def test_acts_behind_those_that_bring_what_is_wanted_are_kept(self):
        rows = (act(0, 0, 1, 0, 5), act(0, 0, 0, 0, 1000))
        self.check((begins(2, 0, 1), *rows, plan(1, 1)), [1, 2005, 0, 1, 1])
        self.check((begins(2, 0, 1), *rows, plan(0, 1, 1)), [0, 2005, 0, 1, 1])

    def test_an_act_that_takes_away_what_is_wanted_is_left_out_or_made_up_for(self):
        rows = (act(0, 0, 1, 0, 5), act(0, 0, 0, 1, 6))
        self.check((begins(1, 0, 1), *rows, plan(0, 1)), [1, 5, 0])
        self.check((begins(1, 0, 1), *rows, plan(1, 0, 1, 1)), [1, 28, 1, 0, 1, 1, 0])

    def test_of_as_near_plans_the_cheapest(self):
        self.check((begins(1, 0, 1), act(0, 0, 1, 0, 5), act(0, 0, 1, 0, 3), act(0, 0, 1, 0, 4)), [1, 3, 1])

    def test_of_as_near_plans_the_cheapest_though_it_has_more_acts(self):
        self.check((*TWO_WAYS, act(0, 0, 2, 0, 10), plan(0)), [2, 3, 1, 0, 2])
        self.check((*TWO_WAYS, act(0, 0, 2, 0, 4), plan(0)), [2, 3, 1, 0, 2])

    def test_of_as_cheap_plans_the_one_with_the_fewest_acts(self):
        self.check((*TWO_WAYS, act(0, 0, 2, 0, 3), plan(0)), [2, 3, 3])
        self.check((*TWO_WAYS, act(0, 0, 2, 0, 2), plan(0)), [2, 2, 3])

    def test_of_as_short_plans_the_first(self):
        self.check((begins(1, 0, 1), act(0, 0, 1, 0, 5), act(0, 0, 1, 0, 5)), [1, 5, 0])
        self.check((begins(2, 0, 3), act(0, 0, 2, 0, 5), act(0, 0, 1, 0, 5)), [2, 10, 0, 1])

    def test_of_as_short_plans_the_first_by_where_an_act_is_put_in(self):
        rows = (act(0, 0, 1, 0, 5), act(0, 0, 2, 0, 5))
        self.check((begins(2, 0, 3), *rows, plan(0)), [1, 10, 0, 1])
        self.check((begins(2, 0, 3), *rows, plan(1)), [1, 10, 0, 1])
        self.check((begins(2, 0, 3), *rows, act(0, 0, 0, 0, 5), plan(2, 1, 2)), [1, 20, 0, 2, 1, 2])
        self.check((begins(2, 0, 3), *rows, act(0, 0, 0, 0, 5), plan(2, 0, 2)), [1, 20, 1, 2, 0, 2])

    def test_of_as_short_plans_the_first_by_which_act_is_left_out(self):
        # Of acts 1 and 0 either may be left out, but not both done.
        rows = (act(0, 2, 1, 0, 5), act(0, 1, 2, 0, 5))
        self.check((begins(2, 0, 0), *rows, plan(1, 0)), [1, 5, 0])
        self.check((begins(2, 0, 0), *rows, plan(0, 1)), [1, 5, 0])

    def test_of_as_short_plans_the_first_by_a_later_place(self):
        rows = (act(0, 0, 1, 0, 5), act(1, 0, 2, 0, 5), act(1, 0, 2, 0, 5))
        self.check((begins(2, 0, 2), *rows, plan(0)), [1, 10, 0, 1])
        # Both ways come to the same state: (0, 3) and (1, 2).
        rows = (act(0, 0, 1, 0, 2), act(0, 0, 2, 0, 2), act(2, 0, 4, 2, 2), act(1, 0, 4, 1, 2))
        self.check((begins(3, 0, 4), *rows), [2, 4, 0, 3])

    def test_a_plan_of_more_acts_than_eight(self):
        self.check((begins(4, 0, 15), *counter(4, 3)), [15, 45] + turns(4))
        self.check((begins(5, 0, 31), *counter(5, 1000)), [31, 31000] + turns(5))
        self.check((begins(4, 0, 15), *counter(4, 3), plan(*turns(4)[:8])), [7, 45] + turns(4))
        self.check((begins(4, 0, 15), *counter(4, 3), plan(*turns(4)[7:])), [7, 45] + turns(4))

    def test_no_plan(self):
        self.check((*CHAIN, wants(8), plan(0, 1, 2)), [-6])
        self.check((begins(2, 0, 2), act(1, 0, 2, 0, 1), plan(0)), [-6])
        self.check((begins(2, 0, 3), act(0, 0, 1, 2, 1), act(0, 0, 2, 1, 1), plan(0, 1)), [-6])

    def test_from_the_state_now(self):
        calls = (*CHAIN[:-1], plan(0, 1, 2), goes(1))
        self.check(calls, [0, 13, 1, 2])
        self.check((*calls, happens(0, 1)), [1] + THREE)
        self.check((*calls, happens(2, 0)), [1, 7, 2])
        self.check((*calls, happens(2, 1)), [1, 7, 2])
        self.check((*calls, happens(4, 0)), [1, 6, 1])
        self.check((*calls, wants(2)), [0, 13, 1, 2])


class Near(unittest.TestCase):
    def test_it_leaves_the_rest_as_it_was(self):
        for acts in ((0, 1, 2), (0, 2), (3, 0), (), (1, 2, 3, 3)):
            for wanted in (4, 0, 8):
                before = (*CHAIN, wants(wanted), plan(*acts))
                after = (did(), still(), goes(2), did(), wants(1), goes(HIGHEST), did())
                expected = asked(*before, *after)
                got = asked(*before, near(), near(), *after)
                self.assertEqual(got[:8] + got[10:], expected)
                self.assertEqual(got[8], got[9])


class Mend(unittest.TestCase):
    def test_it_makes_its_plan_the_rest(self):
        calls = (*CHAIN, plan(0, 2), mend(), still(), goes(1), goes(HIGHEST), did())
        self.assertEqual(asked(*calls)[7:], [[1] + THREE, [1, 3, 7], [1, 1, 2], [2, 7, 0], [18, 7, 0, 0, 1, 2]])

    def test_near_behind_it_answers_nought_for_how_far(self):
        for acts in ((0, 1, 2), (0, 2), (3, 0), (), (1, 2, 3, 3), (4, 4)):
            mended, then, again = asked(*CHAIN, plan(*acts), mend(), near(), mend())[-3:]
            self.assertEqual(then, [0] + mended[1:])
            self.assertEqual(again, then)

    def test_a_rest_of_more_acts_than_eight(self):
        calls = (begins(5, 0, 31), *counter(5, 10), mend(), near(), still(), goes(10), mend(), goes(HIGHEST), did())
        self.assertEqual(asked(*calls)[6:], [
            [31, 310] + turns(5), [0, 310] + turns(5), [1, 31, 31], [10, 10, 21],
            [0, 210] + turns(5)[10:], [21, 31, 0], [310, 31, 0] + turns(5),
        ])

    def test_a_long_rest_grows_from_mend_to_mend(self):
        # Act 5 sets the counter back from its end; to come round to it is nearer than to leave out what is behind.
        calls = (begins(5, 0, 31), *counter(5, 1), act(31, 0, 0, 31, 1), mend())
        calls = (*calls, happens(31, 0), mend(), happens(16, 15), mend(), near(), goes(HIGHEST))
        longest = turns(5)[16:] + [5] + turns(5)
        self.assertEqual(asked(*calls)[7:], [
            [31, 31] + turns(5), [0, 31], [1, 32, 5] + turns(5), [0, 16], [15, 47] + longest,
            [0, 47] + longest, [47, 31, 0],
        ])

    def test_with_no_plan_the_rest_is_as_it_was(self):
        for acts in ((0, 1, 2), (0, 2), (3, 0), ()):
            before = (*CHAIN, wants(8), plan(*acts))
            after = (did(), still(), goes(2), did(), wants(1), goes(HIGHEST), did())
            expected = asked(*before, *after)
            got = asked(*before, mend(), *after)
            self.assertEqual(got[8], [-6])
            self.assertEqual(got[:8] + got[9:], expected)

    def test_it_changes_the_rest_alone(self):
        before = (*CHAIN, plan(0, 2), goes(1), mend())
        self.assertEqual(last(*before, did()), [5, 1, 2, 0])
        self.assertEqual(last(*before, wants(4)), [1])
        self.assertEqual(last(*before, plan(5)), [-1])
        self.assertEqual(last(*before, plan(4)), [1])

    def test_more_than_once(self):
        calls = (*CHAIN[:-1], plan(0, 2), mend(), goes(2), happens(0, 3), mend(), wants(3), mend(), wants(0), mend())
        self.assertEqual(asked(*calls)[6:], [
            [1] + THREE, [2, 3, 1], [0, 0], [2] + THREE, [1], [0] + THREE, [1], [0] + THREE,
        ])


if __name__ == "__main__":
    unittest.main()
