"""The house: its facts, its acts, its state now and the rest of a plan; and the calls on it."""

from mendedplans.acts import Act
from mendedplans.acts import needs_of
from mendedplans.acts import states_along
from mendedplans.search import cheapest_plan
from mendedplans.search import nearest_plan

WRONG = -1
NO_PLAN = -6
FULL = -7

MOST_FACTS = 5
MOST_ACTS = 8
MOST_PLANNED = 8
MOST_COST = 1000
ROW_OF_ACT = 5


def all_there(chosen, facts):
    """Whether a set holds none but the first so many facts."""
    return chosen >> facts == 0


class House:
    """What one line of calls is about; acts are kept in rest and done by their numbers."""

    def __init__(self):
        self.set_anew(1, 0, 0)

    def set_anew(self, facts, state, wanted):
        self.facts = facts
        self.state = state
        self.wanted = wanted
        self.acts = []
        self.rest = []
        self.done = []

    def states_of(self, numbers):
        """The states along the acts of these numbers, from the state now."""
        return states_along([self.acts[number] for number in numbers], self.state)

    def rest_does(self):
        """1 if the rest is a plan from the state now to what is wanted, else 0."""
        states = self.states_of(self.rest)
        if len(states) <= len(self.rest):
            return 0
        return 1 if (states[-1] & self.wanted) == self.wanted else 0


def answer_begins(house, given):
    facts = given[0]
    now = given[1]
    wanted = given[2]
    if facts < 1 or facts > MOST_FACTS or not all_there(now | wanted, facts):
        return [WRONG]
    house.set_anew(facts, now, wanted)
    return [0]


def is_act(row, facts):
    """Whether a row tells an act on so many facts."""
    if len(row) != ROW_OF_ACT:
        return False
    if not all_there(row[0] | row[1] | row[2] | row[3], facts):
        return False
    return 1 <= row[4] and row[4] <= MOST_COST


def answer_act(house, row):
    # The document tells -7 ahead of -1, so a full house doesn't look at the row.
    if len(house.acts) == MOST_ACTS:
        return [FULL]
    if not is_act(row, house.facts):
        return [WRONG]
    house.acts.append(Act(row))
    return [len(house.acts) - 1]


def answer_plan(house, numbers):
    if len(numbers) > MOST_PLANNED:
        return [WRONG]
    if any([number >= len(house.acts) for number in numbers]):
        return [WRONG]
    house.rest = numbers
    return [house.rest_does()]


def answer_goes(house, given):
    states = house.states_of(house.rest[:given[0]])
    gone = len(states) - 1
    house.done = house.done + house.rest[:gone]
    house.rest = house.rest[gone:]
    house.state = states[-1]
    return [gone, house.state, len(house.rest)]


def answer_happens(house, given):
    so = given[0]
    not_so = given[1]
    if not all_there(so | not_so, house.facts):
        return [WRONG]
    # So comes last: a fact that is told in both sets is so.
    house.state = (house.state & ~not_so) | so
    return [house.rest_does(), house.state]


def answer_wants(house, given):
    if not all_there(given[0], house.facts):
        return [WRONG]
    house.wanted = given[0]
    return [house.rest_does()]


def answer_still(house, given):
    states = house.states_of(house.rest)
    return [house.rest_does(), len(states) - 1, states[-1]]


def answer_needs(house, given):
    needs = needs_of([house.acts[number] for number in house.rest], house.wanted)
    if needs is None:
        return [NO_PLAN]
    return [0, needs[0], needs[1]]


def answer_near(house, given):
    nearest = nearest_plan(house.acts, house.rest, house.state, house.wanted)
    if nearest is None:
        return [NO_PLAN]
    return [nearest[0], nearest[1]] + list(nearest[2])


def answer_mend(house, given):
    answer = answer_near(house, given)
    if answer[0] != NO_PLAN:
        house.rest = answer[2:]
    return answer


def answer_fresh(house, given):
    cheapest = cheapest_plan(house.acts, house.state, house.wanted)
    if cheapest is None:
        return [NO_PLAN]
    return [cheapest[0]] + list(cheapest[1])


def answer_did(house, given):
    cost = sum([house.acts[number].cost for number in house.done])
    return [cost, house.state, len(house.rest)] + house.done


# A call's number is its place here; beside it stands how many whole numbers
# are handed over, or None where one row is, which tells its length itself.
CALLS = (
    (answer_begins, 3),
    (answer_act, None),
    (answer_plan, None),
    (answer_goes, 1),
    (answer_happens, 2),
    (answer_wants, 1),
    (answer_still, 0),
    (answer_needs, 0),
    (answer_near, 0),
    (answer_mend, 0),
    (answer_fresh, 0),
    (answer_did, 0),
)


def answers(calls):
    """Answer the calls on one new house: for each, how many numbers, then these."""
    house = House()
    answered = []
    at = 0
    while at < len(calls):
        answer = CALLS[calls[at]][0]
        size = CALLS[calls[at]][1]
        at += 1
        if size is None:
            size = calls[at]
            at += 1
        numbers = answer(house, calls[at:at + size])
        at += size
        answered.append(len(numbers))
        answered.extend(numbers)
    return answered
