import contextlib
import heapq
import io
import random
import time
import unittest

from mendedplans.house import answers
from told import (
    HIGHEST, act, begins, did, fresh, goes, happens, in_one_list, mend, near, needs, plan, still, taken_apart, wants,
)

NAMES = ("begins", "act", "plan", "goes", "happens", "wants", "still", "needs", "near", "mend", "fresh", "did")


class Model:
    """The same calls, told over sets of facts instead of numbers, with plans found by a heap of ways."""

    def __init__(self):
        self.begin(1, 0, 0)

    def begin(self, facts, now, wanted):
        self.facts = set(range(facts))
        self.state = members(now)
        self.wanted = members(wanted)
        self.acts = []
        self.costs = []
        self.rest = []
        self.done = []

    def lacks(self, *chosen):
        return any(not members(number) <= self.facts for number in chosen)

    def does(self, state):
        for number in self.rest:
            state = self.behind(number, state)
            if state is None:
                return 0
        return int(self.wanted <= state)

    def behind(self, number, state):
        needed, barred, brought, taken = self.acts[number]
        if needed - state or barred & state:
            return None
        return (state - taken) | brought

    def answer(self, call):
        name = NAMES[call[0]]
        return getattr(self, name)(call[2:] if name in ("act", "plan") else call[1:])

    def begins(self, given):
        facts, now, wanted = given
        if facts not in (1, 2, 3, 4, 5) or (members(now) | members(wanted)) - set(range(facts)):
            return [-1]
        self.begin(facts, now, wanted)
        return [0]

    def act(self, row):
        if len(self.acts) >= 8:
            return [-7]
        if len(row) != 5 or self.lacks(*row[:4]) or row[4] not in range(1, 1001):
            return [-1]
        self.acts.append([members(chosen) for chosen in row[:4]])
        self.costs.append(row[4])
        return [len(self.acts) - 1]

    def plan(self, numbers):
        if len(numbers) > 8 or set(numbers) - set(range(len(self.acts))):
            return [-1]
        self.rest = list(numbers)
        return [self.does(self.state)]

    def goes(self, given):
        gone = 0
        while gone < given[0] and self.rest:
            state = self.behind(self.rest[0], self.state)
            if state is None:
                break
            self.state = state
            self.done.append(self.rest.pop(0))
            gone += 1
        return [gone, worth(self.state), len(self.rest)]

    def happens(self, given):
        if self.lacks(*given):
            return [-1]
        self.state = (self.state - members(given[1])) | members(given[0])
        return [self.does(self.state), worth(self.state)]

    def wants(self, given):
        if self.lacks(*given):
            return [-1]
        self.wanted = members(given[0])
        return [self.does(self.state)]

    def still(self, given):
        state = self.state
        could = 0
        for number in self.rest:
            behind = self.behind(number, state)
            if behind is None:
                break
            state = behind
            could += 1
        return [self.does(self.state), could, worth(state)]

    def needs(self, given):
        states = [members(number) for number in range(1 << len(self.facts))]
        doing = [state for state in states if self.does(state)]
        if not doing:
            return [-6]
        return [0, worth(set.intersection(*doing)), worth(self.facts - set.union(*doing))]

    def near(self, given):
        ways = [(0, 0, 0, [], 0, worth(self.state))]
        seen = set()
        while ways:
            far, cost, size, row, place, number = heapq.heappop(ways)
            state = members(number)
            if (place, number) in seen:
                continue
            seen.add((place, number))
            if place == len(self.rest) and self.wanted <= state:
                return [far, cost, *row]
            if place < len(self.rest):
                heapq.heappush(ways, (far + 1, cost, size, row, place + 1, number))
            for act_number, behind in self.behind_each(state):
                way = (cost + self.costs[act_number], size + 1, row + [act_number])
                heapq.heappush(ways, (far + 1, *way, place, worth(behind)))
                if self.rest[place:place + 1] == [act_number]:
                    heapq.heappush(ways, (far, *way, place + 1, worth(behind)))
        return [-6]

    def mend(self, given):
        answer = self.near(given)
        if answer != [-6]:
            self.rest = answer[2:]
        return answer

    def fresh(self, given):
        ways = [(0, [], worth(self.state))]
        seen = set()
        while ways:
            cost, row, number = heapq.heappop(ways)
            state = members(number)
            if self.wanted <= state:
                return [cost, *row]
            if number not in seen:
                seen.add(number)
                for act_number, behind in self.behind_each(state):
                    heapq.heappush(ways, (cost + self.costs[act_number], row + [act_number], worth(behind)))
        return [-6]

    def behind_each(self, state):
        behinds = [(number, self.behind(number, state)) for number in range(len(self.acts))]
        return [(number, behind) for number, behind in behinds if behind is not None]

    def did(self, given):
        cost = sum(self.costs[number] for number in self.done)
        return [cost, worth(self.state), len(self.rest), *self.done]


def members(number):
    return {fact for fact in range(number.bit_length()) if number >> fact & 1}


def worth(facts):
    return sum(2 ** fact for fact in facts)


def some_set(chance, facts):
    """Mostly facts that are there, and few of them, so that acts can often be done."""
    if chance.random() < 0.03:
        return chance.choice((1 << facts, HIGHEST, chance.randrange(64)))
    return chance.randrange(1 << facts) & chance.randrange(1 << facts)


def some_call(chance, facts, acts):
    which = chance.choice((1, 1, 2, 2, 2, 3, 3, 4, 4, 5, 6, 7, 8, 9, 10, 11))
    if which > 5:
        return [which]
    if which == 1:
        row = [some_set(chance, facts) for place in range(4)] + [chance.choice((1, 7, 1000, 1, 7, 1000, 0, 1001))]
        return act(*(row if chance.random() < 0.95 else row * 2)[:chance.choice((5, 5, 5, 5, 5, 5, 4, 12))])
    if which == 2:
        size = chance.choice((0, 1, 2, 2, 3, 3, 4, 8, 9, 12))
        beyond = 1 if chance.random() < 0.1 else 0
        return plan(*[chance.randrange(acts + beyond) for place in range(size)])
    if which == 3:
        return goes(chance.choice((0, 1, 2, 3, 8, HIGHEST)))
    if which == 4:
        return happens(some_set(chance, facts), some_set(chance, facts))
    return wants(some_set(chance, facts))


def some_line(chance):
    calls = []
    facts = 1
    acts = 1
    if chance.random() < 0.9:
        facts = chance.randrange(1, 6)
        calls.append(begins(facts, some_set(chance, facts), some_set(chance, facts)))
        acts = chance.randrange(1, 9)
        # Few costs, so that plans are often as cheap as one another.
        costs = chance.choice(((1, 1000), (1, 2, 3), range(1, 1001)))
        for number in range(acts):
            calls.append(act(*[some_set(chance, facts) for place in range(4)], chance.choice(costs)))
    searched = 0
    while len(calls) < 60 and chance.random() < 0.97:
        call = some_call(chance, facts, acts)
        if chance.random() < 0.02:
            call = begins(chance.randrange(8), some_set(chance, facts), some_set(chance, facts))
        searched += call[0] in (8, 9, 10)
        if searched > 8:
            break
        calls.append(call)
    return calls or [goes(1)]


class AgainstTheModel(unittest.TestCase):
    def test_many_lines(self):
        chance = random.Random(20)
        seen = {}
        for turn in range(2000):
            calls = some_line(chance)
            model = Model()
            got = taken_apart(answers(in_one_list(calls)))
            self.assertEqual(got, [model.answer(call) for call in calls], calls)
            for call, answer in zip(calls, got):
                seen[(call[0], answer[0])] = True
        # The lines are of use only if they come to every refusal and to each kind of answer.
        wished = {
            0: (-1, 0), 1: (-7, -1, 7), 2: (-1, 0, 1), 3: (0, 4), 4: (-1, 0, 1), 5: (-1, 0, 1),
            6: (0, 1), 7: (-6, 0), 8: (-6, 0, 1, 2, 3), 9: (-6, 0, 1, 2, 3), 10: (-6, 0, 1, 2, 3), 11: (0, 1, 2),
        }
        for number, firsts in wished.items():
            for first in firsts:
                self.assertIn((number, first), seen)


def counter(facts, cost):
    """Acts that count up in twos: from no fact to all of them there is one way, through every state."""
    return [act((1 << fact) - 1, 1 << fact, 1 << fact, (1 << fact) - 1, cost) for fact in range(facts)]


class TheLargestHouses(unittest.TestCase):
    """5 facts, 8 acts, a rest of 8 acts and 8 calls of near, mend and fresh in a list of 60 calls."""

    def check(self, rows, acts, wanted, searches, between):
        calls = [begins(5, 0, wanted), *rows, plan(*acts)]
        others = (still(), needs(), did(), goes(1), wants(wanted))
        for turn in range(50):
            if turn % 6 == 5:
                calls.append(searches[turn // 6 % len(searches)])
            else:
                calls.append(between[turn] if turn in between else others[turn % 5])
        self.assertEqual(len(calls), 60)
        self.assertEqual(sum(call[0] in (8, 9, 10) for call in calls), 8)
        self.assertLessEqual(len(in_one_list(calls)), 900)
        began = time.perf_counter()
        got = answers(in_one_list(calls))
        self.assertLess(time.perf_counter() - began, 5)
        model = Model()
        self.assertEqual(taken_apart(got), [model.answer(call) for call in calls])
        return taken_apart(got)

    def test_where_the_plan_is_long(self):
        rows = counter(5, 1000) + [act(31, 0, 0, 31, 1)] * 3
        between = {6: happens(0, 31), 12: happens(16, 15), 18: happens(31, 0), 24: happens(0, 31), 36: happens(5, 26)}
        for searches in ((near(), mend(), fresh()), (mend(),), (near(),), (fresh(),)):
            got = self.check(rows, [7, 6, 5, 4, 3, 2, 1, 0], 31, searches, between)
            self.assertGreater(max(len(answer) for answer in got), 30)

    def test_where_every_act_may_always_be_done(self):
        rows = [act(0, 0, 1 << fact, 31 - (1 << fact), 1) for fact in range(5)] + [act(0, 0, 0, 0, 1)] * 3
        for searches in ((near(), mend(), fresh()), (mend(),), (near(),)):
            self.check(rows, [0, 1, 2, 3, 4, 5, 6, 7], 3, searches, {})
            self.check(rows, [0, 1, 2, 3, 4, 5, 6, 7], 16, searches, {})

    def test_where_there_is_no_plan_though_every_state_is_come_to(self):
        rows = counter(4, 1) + [act(15, 0, 0, 15, 1), act(0, 0, 0, 1, 1), act(0, 0, 0, 2, 1), act(0, 0, 0, 4, 1)]
        got = self.check(rows, [4] * 8, 16, (near(), mend(), fresh()), {})
        self.assertEqual(got[15::6][:8], [[-6]] * 8)

    def test_drawn_ones(self):
        chance = random.Random(5)
        for turn in range(30):
            rows = [act(*[some_few(chance) for place in range(4)], chance.randrange(1, 4)) for number in range(8)]
            between = {place: happens(some_few(chance), some_few(chance)) for place in range(0, 50, 5)}
            acts = [chance.randrange(8) for place in range(8)]
            self.check(rows, acts, some_few(chance) | 1, (mend(), near(), fresh()), between)


def some_few(chance):
    return sum(1 << fact for fact in range(5) if chance.random() < 0.25)


SHORT_LINE = (
    begins(2, 1, 2), act(1, 0, 2, 1, 10), plan(0), happens(0, 1), wants(0), goes(3),
    wants(4), happens(1, 0), goes(3),
)

# Facts 0 to 2; act 0 brings fact 0, act 1 fact 1 where fact 0 is so, and act 2 takes fact 0 away.
WHOLE_LINE = (
    still(), needs(), near(), did(),
    begins(3, 0, 2), act(0, 0, 1, 0, 3), act(1, 0, 2, 0, 4), act(0, 0, 0, 1, 1), plan(2, 1),
    still(), needs(), near(), fresh(), mend(), near(), still(), needs(), goes(2), did(),
    happens(0, 1), still(), wants(4), needs(), near(), mend(), fresh(), wants(8), goes(9), did(),
)
WHOLE_ANSWER = [
    3, 1, 0, 0, 3, 0, 0, 0, 2, 0, 0, 3, 0, 0, 0,
    1, 0, 1, 0, 1, 1, 1, 2, 1, 0,
    3, 0, 1, 0, 1, -6, 5, 1, 8, 2, 0, 1, 3, 7, 0, 1, 5, 1, 8, 2, 0, 1, 5, 0, 8, 2, 0, 1, 3, 1, 3, 3, 3, 0, 0, 0,
    3, 2, 1, 1, 5, 4, 1, 1, 2, 0,
    2, 0, 0, 3, 0, 0, 0, 1, 0, 3, 0, 5, 0, 1, -6, 1, -6, 1, -6, 1, -1, 3, 0, 0, 1, 5, 4, 0, 1, 2, 0,
]


class TheLists(unittest.TestCase):
    def test_each_call_alone_with_its_count(self):
        self.assertEqual(answers([0, 2, 1, 2]), [1, 0])
        self.assertEqual(answers([1, 5, 1, 0, 1, 0, 10]), [1, 0])
        self.assertEqual(answers([2, 0]), [1, 1])
        self.assertEqual(answers([3, 7]), [3, 0, 0, 0])
        self.assertEqual(answers([4, 1, 0]), [2, 1, 1])
        self.assertEqual(answers([5, 1]), [1, 0])
        self.assertEqual(answers([6]), [3, 1, 0, 0])
        self.assertEqual(answers([7]), [3, 0, 0, 0])
        self.assertEqual(answers([8]), [2, 0, 0])
        self.assertEqual(answers([9]), [2, 0, 0])
        self.assertEqual(answers([10]), [1, 0])
        self.assertEqual(answers([11]), [3, 0, 0, 0])

    def test_each_refusal_alone_with_its_count(self):
        self.assertEqual(answers([0, 0, 0, 0]), [1, -1])
        self.assertEqual(answers([1, 0]), [1, -1])
        self.assertEqual(answers([2, 1, 0]), [1, -1])
        self.assertEqual(answers([4, 2, 0]), [1, -1])
        self.assertEqual(answers([5, 2]), [1, -1])
        self.assertEqual(answers([1, 5, 0, 0, 0, 0, 1] * 9)[-2:], [1, -7])
        self.assertEqual(answers([5, 1, 8]), [1, 0, 1, -6])
        self.assertEqual(answers([5, 1, 9]), [1, 0, 1, -6])
        self.assertEqual(answers([5, 1, 10]), [1, 0, 1, -6])
        self.assertEqual(answers([1, 5, 1, 1, 0, 0, 1, 2, 1, 0, 7]), [1, 0, 1, 0, 1, -6])

    def test_one_behind_another(self):
        calls = [0, 2, 1, 2, 1, 5, 1, 0, 2, 1, 10, 2, 1, 0, 4, 0, 1, 5, 0, 3, 3, 5, 4, 4, 1, 0, 3, 3]
        self.assertEqual(calls, in_one_list(SHORT_LINE))
        self.assertEqual(
            answers(calls),
            [1, 0, 1, 0, 1, 1, 2, 0, 0, 1, 0, 3, 0, 0, 1, 1, -1, 2, 1, 1, 3, 1, 2, 0],
        )

    def test_the_six_that_have_no_numbers_one_behind_another(self):
        self.assertEqual(answers([6, 7, 8, 9, 10, 11]), [3, 1, 0, 0, 3, 0, 0, 0, 2, 0, 0, 2, 0, 0, 1, 0, 3, 0, 0, 0])
        self.assertEqual(answers([11, 10, 9, 8, 7, 6]), [3, 0, 0, 0, 1, 0, 2, 0, 0, 2, 0, 0, 3, 0, 0, 0, 3, 1, 0, 0])

    def test_all_twelve_among_one_another(self):
        self.assertEqual({call[0] for call in WHOLE_LINE}, set(range(12)))
        self.assertEqual(answers(in_one_list(WHOLE_LINE)), WHOLE_ANSWER)

    def test_sixty_calls(self):
        self.assertEqual(answers([3, HIGHEST] * 60), [3, 0, 0, 0] * 60)

    def test_sixty_calls_with_the_longest_rows(self):
        self.assertEqual(answers(([1, 12] + [0] * 12) * 60), [1, -1] * 60)
        self.assertEqual(answers(([2, 12] + [0] * 12) * 60), [1, -1] * 60)

    def test_answers_are_whole_numbers_and_no_truths(self):
        for number in answers(in_one_list(WHOLE_LINE)):
            self.assertIs(type(number), int)

    def test_answers_are_a_list(self):
        self.assertIs(type(answers([2, 0])), list)


class NothingIsChangedOrKept(unittest.TestCase):
    def test_the_list_handed_in_is_the_same_afterwards(self):
        calls = in_one_list(WHOLE_LINE)
        answers(calls)
        self.assertEqual(calls, in_one_list(WHOLE_LINE))

    def test_the_list_handed_in_is_not_changed_for_a_while_either(self):
        class Unchanged(list):
            def refuse(self, *given):
                raise AssertionError("the list was to be changed")

            append = extend = insert = pop = remove = clear = reverse = sort = refuse
            __setitem__ = __delitem__ = __iadd__ = __imul__ = refuse

        self.assertEqual(answers(Unchanged(in_one_list(WHOLE_LINE))), answers(in_one_list(WHOLE_LINE)))

    def test_the_same_list_asked_twice(self):
        calls = in_one_list(WHOLE_LINE)
        first = answers(calls)
        self.assertEqual(answers(calls), first)

    def test_another_list_between(self):
        first = answers([5, 1])
        answers(in_one_list(WHOLE_LINE))
        self.assertEqual(answers([5, 1]), first)
        self.assertEqual(answers([2, 1, 0]), [1, -1])

    def test_what_was_given_back_may_be_changed(self):
        calls = in_one_list(WHOLE_LINE)
        first = answers(calls)
        kept = list(first)
        first.clear()
        self.assertEqual(answers(calls), kept)

    def test_nothing_is_printed(self):
        printed = io.StringIO()
        with contextlib.redirect_stdout(printed), contextlib.redirect_stderr(printed):
            answers(in_one_list(WHOLE_LINE))
        self.assertEqual(printed.getvalue(), "")


if __name__ == "__main__":
    unittest.main()
