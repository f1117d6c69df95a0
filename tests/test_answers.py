import contextlib
import io
import random
import unittest

from mendedplans.house import answers
from told import HIGHEST, act, begins, goes, happens, in_one_list, plan, taken_apart, wants


class Model:
    """The same six calls, told over sets of facts instead of numbers."""

    def __init__(self):
        self.begin(1, 0, 0)

    def begin(self, facts, now, wanted):
        self.facts = set(range(facts))
        self.state = members(now)
        self.wanted = members(wanted)
        self.acts = []
        self.rest = []

    def lacks(self, *chosen):
        return any(not members(number) <= self.facts for number in chosen)

    def does(self):
        state = self.state
        for number in self.rest:
            state = self.behind(number, state)
            if state is None:
                return 0
        return int(self.wanted <= state)

    def behind(self, number, state):
        needed, barred, brought, taken = self.acts[number]
        if needed - state or barred & state:
            return None
        return (state - taken) | brought

    def answer(self, call):
        name = ("begins", "act", "plan", "goes", "happens", "wants")[call[0]]
        return getattr(self, name)(call[2:] if name in ("act", "plan") else call[1:])

    def begins(self, given):
        facts, now, wanted = given
        if facts not in (1, 2, 3, 4, 5) or (members(now) | members(wanted)) - set(range(facts)):
            return [-1]
        self.begin(facts, now, wanted)
        return [0]

    def act(self, row):
        if len(self.acts) >= 8:
            return [-7]
        if len(row) != 5 or self.lacks(*row[:4]) or row[4] not in range(1, 1001):
            return [-1]
        self.acts.append([members(chosen) for chosen in row[:4]])
        return [len(self.acts) - 1]

    def plan(self, numbers):
        if len(numbers) > 8 or set(numbers) - set(range(len(self.acts))):
            return [-1]
        self.rest = list(numbers)
        return [self.does()]

    def goes(self, given):
        gone = 0
        while gone < given[0] and self.rest:
            state = self.behind(self.rest[0], self.state)
            if state is None:
                break
            self.state = state
            self.rest.pop(0)
            gone += 1
        return [gone, worth(self.state), len(self.rest)]

    def happens(self, given):
        if self.lacks(*given):
            return [-1]
        self.state = (self.state - members(given[1])) | members(given[0])
        return [self.does(), worth(self.state)]

    def wants(self, given):
        if self.lacks(*given):
            return [-1]
        self.wanted = members(given[0])
        return [self.does()]


def members(number):
    return {fact for fact in range(32) if number >> fact & 1}


def worth(facts):
    return sum(2 ** fact for fact in facts)


def some_set(chance, facts):
    """Mostly facts that are there, and few of them, so that acts can often be done."""
    if chance.random() < 0.03:
        return chance.choice((1 << facts, HIGHEST, chance.randrange(64)))
    return chance.randrange(1 << facts) & chance.randrange(1 << facts)


def some_call(chance, facts, acts):
    which = chance.choice((1, 1, 2, 2, 2, 3, 3, 4, 4, 5))
    if which == 1:
        row = [some_set(chance, facts) for place in range(4)] + [chance.choice((1, 7, 1000, 1, 7, 1000, 0, 1001))]
        return act(*(row if chance.random() < 0.95 else row * 2)[:chance.choice((5, 5, 5, 5, 5, 5, 4, 12))])
    if which == 2:
        size = chance.choice((0, 1, 2, 2, 3, 3, 4, 8, 9, 12))
        beyond = 1 if chance.random() < 0.1 else 0
        return plan(*[chance.randrange(acts + beyond) for place in range(size)])
    if which == 3:
        return goes(chance.choice((0, 1, 2, 3, 8, HIGHEST)))
    if which == 4:
        return happens(some_set(chance, facts), some_set(chance, facts))
    return wants(some_set(chance, facts))


def some_line(chance):
    calls = []
    facts = 1
    acts = 1
    if chance.random() < 0.9:
        facts = chance.randrange(1, 6)
        calls.append(begins(facts, some_set(chance, facts), some_set(chance, facts)))
        acts = chance.randrange(1, 9)
        for number in range(acts):
            calls.append(act(*[some_set(chance, facts) for place in range(4)], chance.randrange(1, 1001)))
    while len(calls) < 60 and chance.random() < 0.97:
        if chance.random() < 0.02:
            calls.append(begins(chance.randrange(8), some_set(chance, facts), some_set(chance, facts)))
        else:
            calls.append(some_call(chance, facts, acts))
    return calls or [goes(1)]


class AgainstTheModel(unittest.TestCase):
    def test_many_lines(self):
        chance = random.Random(20)
        seen = {}
        for turn in range(2000):
            calls = some_line(chance)
            model = Model()
            got = taken_apart(answers(in_one_list(calls)))
            self.assertEqual(got, [model.answer(call) for call in calls], calls)
            for call, answer in zip(calls, got):
                seen[(call[0], answer[0])] = True
        # The lines are of use only if they come to every refusal and to both answers.
        wished = {0: (-1, 0), 1: (-7, -1, 7), 2: (-1, 0, 1), 3: (0, 4), 4: (-1, 0, 1), 5: (-1, 0, 1)}
        for number, firsts in wished.items():
            for first in firsts:
                self.assertIn((number, first), seen)


SHORT_LINE = (
    begins(2, 1, 2), act(1, 0, 2, 1, 10), plan(0), happens(0, 1), wants(0), goes(3),
    wants(4), happens(1, 0), goes(3),
)


class TheLists(unittest.TestCase):
    def test_each_call_alone_with_its_count(self):
        self.assertEqual(answers([0, 2, 1, 2]), [1, 0])
        self.assertEqual(answers([1, 5, 1, 0, 1, 0, 10]), [1, 0])
        self.assertEqual(answers([2, 0]), [1, 1])
        self.assertEqual(answers([3, 7]), [3, 0, 0, 0])
        self.assertEqual(answers([4, 1, 0]), [2, 1, 1])
        self.assertEqual(answers([5, 1]), [1, 0])

    def test_each_refusal_alone_with_its_count(self):
        self.assertEqual(answers([0, 0, 0, 0]), [1, -1])
        self.assertEqual(answers([1, 0]), [1, -1])
        self.assertEqual(answers([2, 1, 0]), [1, -1])
        self.assertEqual(answers([4, 2, 0]), [1, -1])
        self.assertEqual(answers([5, 2]), [1, -1])
        self.assertEqual(answers([1, 5, 0, 0, 0, 0, 1] * 9)[-2:], [1, -7])

    def test_one_behind_another(self):
        calls = [0, 2, 1, 2, 1, 5, 1, 0, 2, 1, 10, 2, 1, 0, 4, 0, 1, 5, 0, 3, 3, 5, 4, 4, 1, 0, 3, 3]
        self.assertEqual(calls, in_one_list(SHORT_LINE))
        self.assertEqual(
            answers(calls),
            [1, 0, 1, 0, 1, 1, 2, 0, 0, 1, 0, 3, 0, 0, 1, 1, -1, 2, 1, 1, 3, 1, 2, 0],
        )

    def test_sixty_calls(self):
        self.assertEqual(answers([3, HIGHEST] * 60), [3, 0, 0, 0] * 60)

    def test_sixty_calls_with_the_longest_rows(self):
        self.assertEqual(answers(([1, 12] + [0] * 12) * 60), [1, -1] * 60)
        self.assertEqual(answers(([2, 12] + [0] * 12) * 60), [1, -1] * 60)

    def test_answers_are_whole_numbers_and_no_truths(self):
        for number in answers(in_one_list(SHORT_LINE)):
            self.assertIs(type(number), int)

    def test_answers_are_a_list(self):
        self.assertIs(type(answers([2, 0])), list)


class NothingIsChangedOrKept(unittest.TestCase):
    def test_the_list_handed_in_is_the_same_afterwards(self):
        calls = in_one_list(SHORT_LINE)
        answers(calls)
        self.assertEqual(calls, in_one_list(SHORT_LINE))

    def test_the_list_handed_in_is_not_changed_for_a_while_either(self):
        class Unchanged(list):
            def refuse(self, *given):
                raise AssertionError("the list was to be changed")

            append = extend = insert = pop = remove = clear = reverse = sort = refuse
            __setitem__ = __delitem__ = __iadd__ = __imul__ = refuse

        self.assertEqual(answers(Unchanged(in_one_list(SHORT_LINE))), answers(in_one_list(SHORT_LINE)))

    def test_the_same_list_asked_twice(self):
        calls = in_one_list(SHORT_LINE)
        first = answers(calls)
        self.assertEqual(answers(calls), first)

    def test_another_list_between(self):
        first = answers([5, 1])
        answers(in_one_list(SHORT_LINE))
        self.assertEqual(answers([5, 1]), first)
        self.assertEqual(answers([2, 1, 0]), [1, -1])

    def test_what_was_given_back_may_be_changed(self):
        calls = in_one_list(SHORT_LINE)
        first = answers(calls)
        kept = list(first)
        first.clear()
        self.assertEqual(answers(calls), kept)

    def test_nothing_is_printed(self):
        printed = io.StringIO()
        with contextlib.redirect_stdout(printed), contextlib.redirect_stderr(printed):
            answers(in_one_list(SHORT_LINE))
        self.assertEqual(printed.getvalue(), "")


if __name__ == "__main__":
    unittest.main()
