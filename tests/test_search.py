"""Near, mend and fresh held against other ways of finding the plan, over many drawn houses."""

import random
import unittest

from told import act, asked, begins, fresh, last, mend, near, plan, still

MOST_ROWS = 30000


class Drawn:
    """A drawn house: of one sort, where an act brings one fact, so that plans have more acts than one; or of another,
    where it costs as many as it brings, so that plans of more and of fewer acts are often as cheap as one another."""

    def __init__(self, chance, facts, acts, planned):
        self.facts = facts
        draw = chance.choice((self.drawn_row, self.even_row))
        self.rows = [draw(chance) for number in range(acts)]
        self.rest = [chance.randrange(acts) for place in range(planned)]
        self.state = self.drawn_set(chance, 0.15)
        self.wanted = self.drawn_set(chance, 0.6)

    def drawn_set(self, chance, share):
        return sum(1 << fact for fact in range(self.facts) if chance.random() < share)

    def drawn_row(self, chance):
        needed = self.drawn_set(chance, 0.25)
        barred = self.drawn_set(chance, 0.2) & ~needed
        brought = 1 << chance.randrange(self.facts)
        return (needed, barred, brought, self.drawn_set(chance, 0.15), chance.randrange(1, 4))

    def even_row(self, chance):
        brought = chance.randrange(1, 1 << self.facts)
        needed = self.drawn_set(chance, 0.15) & ~brought
        # One that can't be done behind another is put in its place: as near as two others put in beside that.
        barred = chance.choice((0, brought, brought))
        return (needed, barred, brought, 0, bin(brought).count("1"))

    def calls(self):
        return [begins(self.facts, self.state, self.wanted), *[act(*row) for row in self.rows], plan(*self.rest)]

    def behind(self, number, state):
        needed, barred, brought, taken, cost = self.rows[number]
        if state | needed != state or state & barred:
            return None
        return (state - (state & taken)) | brought

    def is_end(self, state):
        return state | self.wanted == state

    def cost(self, row):
        return sum(self.rows[number][4] for number in row)

    def states_come_to(self):
        come_to = {self.state}
        while True:
            more = {self.behind(number, state) for state in come_to for number in range(len(self.rows))} - {None}
            if more <= come_to:
                return come_to
            come_to |= more


def how_far(old, new):
    """As the document says it: all of both, but those that are kept, which are a longest row that both have."""
    longest = [0] * (len(new) + 1)
    for one in old:
        before = longest
        longest = [0]
        for place, other in enumerate(new):
            longest.append(before[place] + 1 if one == other else max(before[place + 1], longest[-1]))
    return len(old) + len(new) - 2 * longest[-1]


def longer_rows(house, rows):
    found = []
    for row, state in rows:
        for number in range(len(house.rows)):
            behind = house.behind(number, state)
            if behind is not None:
                found.append((row + [number], behind))
    return found


def every_plan(house, enough):
    """All plans, the shorter first, till enough of them are there; None where there are too many rows."""
    rows = [([], house.state)]
    plans = []
    while rows and not enough(plans, len(rows[0][0])):
        if len(rows) > MOST_ROWS:
            return None
        plans.extend(row for row, state in rows if house.is_end(state))
        rows = longer_rows(house, rows)
    return plans


def near_by_every_plan(house):
    def rank(row):
        return (how_far(house.rest, row), house.cost(row), len(row), row)

    def enough(plans, size):
        # A row that is longer than the rest by more than a plan is far can't be nearer.
        return size > len(house.rest) + min([rank(row)[0] for row in plans], default=MOST_ROWS)

    plans = every_plan(house, enough)
    if plans is None:
        return None
    far, cost, size, row = min(rank(row) for row in plans)
    return [far, cost, *row]


def fresh_by_every_plan(house):
    # No cheapest plan comes to a state twice.
    plans = every_plan(house, lambda plans, size: size >= 1 << house.facts)
    if plans is None:
        return None
    cost, row = min((house.cost(row), row) for row in plans)
    return [cost, *row]


def relaxed(ends, links):
    """From each node the best on to an end, made better till nothing changes; links: node, next node, longer."""
    best = dict(ends)
    changed = True
    while changed:
        changed = False
        for node, on, longer in links:
            if on in best and (node not in best or longer(best[on]) < best[node]):
                best[node] = longer(best[on])
                changed = True
    return best


def near_by_relaxing(house):
    def put_ahead(number, far):
        cost = house.rows[number][4]
        return lambda on: (on[0] + far, on[1] + cost, on[2] + 1, (number,) + on[3])

    states = range(1 << house.facts)
    size = len(house.rest)
    links = []
    for place in range(size, -1, -1):
        for state in states:
            if place < size:
                links.append(((place, state), (place + 1, state), lambda on: (on[0] + 1, *on[1:])))
            for number in range(len(house.rows)):
                behind = house.behind(number, state)
                if behind is not None:
                    links.append(((place, state), (place, behind), put_ahead(number, 1)))
                    if place < size and house.rest[place] == number:
                        links.append(((place, state), (place + 1, behind), put_ahead(number, 0)))
    ends = {(size, state): (0, 0, 0, ()) for state in states if house.is_end(state)}
    best = relaxed(ends, links).get((0, house.state))
    return [-6] if best is None else [best[0], best[1], *best[3]]


def fresh_by_relaxing(house):
    def put_ahead(number):
        cost = house.rows[number][4]
        return lambda on: (on[0] + cost, (number,) + on[1])

    states = range(1 << house.facts)
    links = [
        (state, house.behind(number, state), put_ahead(number))
        for state in states for number in range(len(house.rows)) if house.behind(number, state) is not None
    ]
    best = relaxed({state: (0, ()) for state in states if house.is_end(state)}, links).get(house.state)
    return [-6] if best is None else [best[0], *best[1]]


class AgainstEveryPlanThatThereIs(unittest.TestCase):
    def test_near_and_mend(self):
        chance = random.Random(1)
        seen = {}
        for turn in range(3000):
            house = Drawn(chance, chance.randrange(1, 4), chance.randrange(2, 5), chance.randrange(0, 5))
            expected = [-6]
            if any(house.is_end(state) for state in house.states_come_to()):
                expected = near_by_every_plan(house)
            if expected is not None:
                self.assertEqual(last(*house.calls(), near()), expected, house.calls())
                self.assertEqual(last(*house.calls(), mend()), expected, house.calls())
                seen[expected[0]] = seen.get(expected[0], 0) + 1
        for far in (-6, 0, 1, 2, 3, 4):
            self.assertGreater(seen.get(far, 0), 20, seen)
        self.assertGreater(sum(seen.values()), 2900)

    def test_fresh(self):
        chance = random.Random(2)
        seen = {}
        for turn in range(1500):
            house = Drawn(chance, chance.randrange(1, 4), chance.randrange(2, 5), 0)
            expected = [-6]
            if any(house.is_end(state) for state in house.states_come_to()):
                expected = fresh_by_every_plan(house)
            if expected is not None:
                self.assertEqual(last(*house.calls(), fresh()), expected, house.calls())
                size = -1 if expected == [-6] else len(expected) - 1
                seen[size] = seen.get(size, 0) + 1
        for size in (-1, 0, 1, 2):
            self.assertGreater(seen.get(size, 0), 20, seen)
        self.assertGreater(seen.get(3, 0), 0, seen)
        self.assertGreater(sum(seen.values()), 1450)


class AgainstRelaxing(unittest.TestCase):
    def test_large_houses(self):
        chance = random.Random(3)
        sizes = {}
        for turn in range(400):
            house = Drawn(chance, chance.randrange(3, 6), chance.randrange(5, 9), chance.randrange(0, 9))
            nearest = near_by_relaxing(house)
            expected = [nearest, fresh_by_relaxing(house), nearest]
            self.assertEqual(asked(*house.calls(), near(), fresh(), mend())[-3:], expected, house.calls())
            self.check_mended(house, nearest)
            sizes[len(expected[1])] = sizes.get(len(expected[1]), 0) + 1
        self.assertGreater(sum(sizes[size] for size in sizes if size > 2), 80, sizes)

    def check_mended(self, house, nearest):
        """What is answered of a plan holds of it."""
        if nearest != [-6]:
            row = nearest[2:]
            self.assertEqual(nearest[:2], [how_far(house.rest, row), house.cost(row)])
            does, could, state = last(*house.calls(), mend(), still())
            self.assertEqual((does, could), (1, len(row)))


class HowFar(unittest.TestCase):
    """The second way's own measure, on rows that can be told by hand."""

    def test_by_hand(self):
        self.assertEqual(how_far([], []), 0)
        self.assertEqual(how_far([1, 2], [1, 2]), 0)
        self.assertEqual(how_far([1, 2], [1, 3, 2]), 1)
        self.assertEqual(how_far([1, 2], [2, 1]), 2)
        self.assertEqual(how_far([1, 2, 3], []), 3)
        self.assertEqual(how_far([1, 2, 3], [3, 2, 1]), 4)


if __name__ == "__main__":
    unittest.main()
