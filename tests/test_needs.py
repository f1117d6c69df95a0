import random
import unittest

from told import HIGHEST, act, asked, begins, did, goes, happens, last, mend, needs, plan, wants


def does_from(facts, calls):
    """The states from which the rest does, asked one by one through happens."""
    every = (1 << facts) - 1
    turns = [happens(state, every - state) for state in range(every + 1)]
    return [state for state, answer in enumerate(asked(*calls, *turns)[len(calls):]) if answer[0] == 1]


class Needs(unittest.TestCase):
    def check(self, facts, wanted, rows, acts, expected):
        """Holds the answer against what is expected, and this against every state that there is."""
        calls = [begins(facts, 0, wanted), *[act(*row) for row in rows], plan(*acts)]
        self.assertEqual(last(*calls, needs()), expected)
        doing = does_from(facts, calls)
        if expected == [-6]:
            self.assertEqual(doing, [])
        else:
            self.assertEqual(doing, [
                state for state in range(1 << facts)
                if state & expected[1] == expected[1] and state & expected[2] == 0
            ])

    def test_at_a_line_s_beginning(self):
        self.assertEqual(last(needs()), [0, 0, 0])
        self.assertEqual(last(wants(1), needs()), [0, 1, 0])

    def test_with_no_rest_it_is_what_is_wanted(self):
        for wanted in range(8):
            self.check(3, wanted, [], [], [0, wanted, 0])

    def test_with_nothing_wanted(self):
        self.check(3, 0, [(0, 0, 7, 0, 1)], [0], [0, 0, 0])
        self.check(3, 0, [(1, 2, 4, 0, 1)], [0], [0, 1, 2])

    def test_with_what_is_wanted_so_already_it_is_the_same(self):
        calls = (begins(2, 2, 2), act(1, 0, 0, 0, 1), plan(0))
        self.assertEqual(last(*calls, needs()), [0, 3, 0])

    def test_what_an_act_needs_and_what_must_not_be(self):
        self.check(4, 8, [(1, 2, 8, 0, 1)], [0], [0, 1, 2])

    def test_what_is_brought_is_not_needed_any_more(self):
        self.check(3, 4, [(0, 0, 1, 0, 1), (1, 0, 2, 0, 1), (3, 0, 4, 0, 1)], [0, 1, 2], [0, 0, 0])
        self.check(3, 4, [(0, 0, 1, 0, 1), (1, 0, 2, 0, 1), (3, 0, 4, 0, 1)], [0, 2], [0, 2, 0])
        self.check(3, 4, [(0, 0, 1, 0, 1), (1, 0, 2, 0, 1), (3, 0, 4, 0, 1)], [2], [0, 3, 0])

    def test_what_is_taken_away_may_be_so(self):
        self.check(2, 2, [(0, 0, 0, 1, 1), (0, 1, 2, 0, 1)], [0, 1], [0, 0, 0])
        self.check(2, 2, [(0, 0, 0, 1, 1), (0, 1, 2, 0, 1)], [1], [0, 0, 1])

    def test_an_act_that_brings_what_it_needs(self):
        self.check(2, 1, [(1, 0, 1, 0, 1)], [0], [0, 1, 0])
        self.check(2, 3, [(1, 0, 1, 0, 1)], [0], [0, 3, 0])

    def test_an_act_that_takes_away_what_it_needs(self):
        self.check(2, 2, [(1, 0, 2, 1, 1)], [0], [0, 1, 0])
        self.check(2, 2, [(1, 0, 2, 1, 1)], [0, 0], [-6])

    def test_an_act_that_brings_what_must_not_be_for_it(self):
        self.check(2, 1, [(0, 1, 1, 0, 1)], [0], [0, 0, 1])
        self.check(2, 1, [(0, 1, 1, 0, 1)], [0, 0], [-6])

    def test_an_act_that_takes_away_what_is_wanted(self):
        self.check(2, 3, [(0, 0, 0, 1, 1)], [0], [-6])
        self.check(2, 3, [(0, 0, 0, 1, 1), (0, 0, 1, 0, 1)], [0, 1], [0, 2, 0])
        self.check(2, 3, [(0, 0, 0, 1, 1), (0, 0, 1, 0, 1)], [1, 0], [-6])

    def test_an_act_that_takes_away_what_is_needed_later(self):
        self.check(2, 2, [(0, 0, 0, 1, 1), (1, 0, 2, 0, 1)], [0, 1], [-6])

    def test_an_act_that_brings_what_must_not_be_so_later(self):
        self.check(3, 4, [(0, 0, 1, 0, 1), (0, 1, 4, 0, 1)], [0, 1], [-6])
        self.check(3, 4, [(0, 0, 1, 0, 1), (0, 1, 4, 0, 1)], [1, 0], [0, 0, 1])

    def test_a_fact_that_has_to_be_and_must_not_be(self):
        self.check(2, 2, [(1, 1, 2, 0, 1)], [0], [-6])
        self.check(2, 1, [(0, 1, 2, 0, 1)], [0], [-6])
        self.check(3, 4, [(1, 0, 0, 0, 1), (0, 1, 4, 0, 1)], [0, 1], [-6])
        self.check(3, 4, [(0, 1, 0, 0, 1), (1, 0, 4, 0, 1)], [0, 1], [-6])

    def test_a_fact_in_both_that_an_act_ahead_brings_or_takes_away(self):
        both = (1, 1, 2, 0, 1)
        self.check(2, 2, [both, (0, 0, 1, 0, 1)], [1, 0], [-6])
        self.check(2, 2, [both, (0, 0, 0, 1, 1)], [1, 0], [-6])
        self.check(2, 2, [both, (0, 0, 1, 1, 1)], [1, 0], [-6])

    def test_an_act_that_brings_and_takes_away_the_same_fact(self):
        self.check(2, 1, [(0, 0, 1, 1, 1)], [0], [0, 0, 0])
        self.check(2, 3, [(0, 0, 1, 3, 1)], [0], [-6])
        self.check(2, 2, [(0, 0, 1, 1, 1), (0, 1, 2, 0, 1)], [0, 1], [-6])
        self.check(2, 2, [(0, 0, 1, 1, 1), (1, 0, 2, 0, 1)], [0, 1], [0, 0, 0])

    def test_a_rest_of_eight_acts(self):
        self.check(5, 16, [(1, 2, 0, 0, 1), (4, 8, 16, 0, 1)], [0, 1] * 4, [0, 5, 10])

    def test_it_does_not_hang_on_the_state_now(self):
        for state in range(8):
            calls = (begins(3, state, 4), act(1, 2, 4, 0, 1), plan(0))
            self.assertEqual(last(*calls, needs()), [0, 1, 2])
            calls = (begins(3, 0, 4), act(1, 2, 4, 0, 1), plan(0), happens(state, 7 - state))
            self.assertEqual(last(*calls, needs()), [0, 1, 2])

    def test_it_is_of_the_rest_alone(self):
        calls = (begins(3, 1, 4), act(1, 0, 2, 1, 1), act(2, 1, 4, 0, 1), plan(0, 1))
        calls = (*calls, needs(), goes(1), needs(), goes(1), needs(), wants(1), needs())
        self.assertEqual(asked(*calls)[4:], [[0, 1, 0], [1, 2, 1], [0, 2, 1], [1, 6, 0], [0, 4, 0], [0], [0, 1, 0]])

    def test_of_a_rest_that_was_mended(self):
        calls = (begins(2, 0, 2), act(0, 0, 1, 0, 1), act(1, 0, 2, 0, 1), plan(1), needs(), mend(), needs())
        self.assertEqual(asked(*calls)[4:], [[0, 1, 0], [1, 2, 0, 1], [0, 0, 0]])

    def test_it_changes_nothing_refused_or_not(self):
        for acts in ((0, 1), (1, 0), (2, 1), (2, 0, 1)):
            before = (begins(2, 0, 2), act(0, 0, 1, 0, 1), act(1, 0, 2, 0, 1), act(0, 0, 0, 3, 5), plan(*acts))
            after = (did(), goes(1), did(), wants(1), goes(HIGHEST), did())
            expected = asked(*before, *after)
            got = asked(*before, needs(), needs(), *after)
            self.assertEqual(got[:5] + got[7:], expected)
            self.assertEqual(got[5], got[6])

    def test_against_every_state_over_many_drawn_houses(self):
        chance = random.Random(7)
        refused = 0
        answered = 0
        for turn in range(1500):
            facts = chance.randrange(1, 6)
            few = [sum(1 << fact for fact in range(facts) if chance.random() < 0.2) for place in range(100)]
            rows = [[chance.choice(few) for place in range(4)] + [1] for number in range(chance.randrange(1, 9))]
            acts = [chance.randrange(len(rows)) for place in range(chance.randrange(0, 9))]
            calls = [begins(facts, 0, chance.choice(few)), *[act(*row) for row in rows], plan(*acts)]
            doing = does_from(facts, calls)
            expected = [-6]
            if doing:
                every = (1 << facts) - 1
                must = must_not = every
                for state in doing:
                    must &= state
                    must_not &= every - state
                expected = [0, must, must_not]
                left = every - must - must_not
                self.assertEqual(len(doing), 1 << bin(left).count("1"))
            self.assertEqual(last(*calls, needs()), expected, calls)
            refused += expected == [-6]
            answered += expected != [-6] and len(acts) > 2
        self.assertGreater(refused, 200)
        self.assertGreater(answered, 200)


if __name__ == "__main__":
    unittest.main()
