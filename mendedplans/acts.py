"""Acts: when one may be done, and what is so behind it."""


class Act:
    """Four sets of facts (needed, barred, brought, taken away) and a cost."""

    def __init__(self, row):
        self.needed = row[0]
        self.barred = row[1]
        self.brought = row[2]
        self.taken = row[3]
        self.cost = row[4]

    def may_be_done(self, state):
        return (state & self.needed) == self.needed and (state & self.barred) == 0

    def state_behind(self, state):
        # Brought comes last: a fact that is both brought and taken away is so.
        return (state & ~self.taken) | self.brought


def states_along(acts, state):
    """The state, then the one behind each act, one behind another, till one can't be done."""
    states = [state]
    for act in acts:
        if not act.may_be_done(states[-1]):
            break
        states.append(act.state_behind(states[-1]))
    return states


def needs_of(acts, wanted):
    """The facts that have to be so and those that mustn't be, or None if the acts are a plan from no state."""
    must = wanted
    must_not = 0
    for act in reversed(acts):
        lost = act.taken & ~act.brought
        if (must & lost) != 0 or (must_not & act.brought) != 0:
            return None
        must = (must & ~act.brought) | act.needed
        must_not = (must_not & ~lost) | act.barred
    # A fact in both sets further on either ended the walk at an act above or is in both sets here too.
    if (must & must_not) != 0:
        return None
    return (must, must_not)
