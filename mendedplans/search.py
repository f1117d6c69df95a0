"""Finding plans: the cheapest one, and the one nearest to a row of acts."""

# Tuples are compared place by place, so what matters first stands first in each of them: in the ways of
# cheapest_plan the cost, then the acts; in those of nearest_plan the cost, then how many acts, then the acts.


def cheapest_plan(acts, state, wanted):
    """The cost and the acts' numbers of the first of the cheapest plans, or None."""
    ways = [(0, (), state)]
    passed = {}
    while len(ways) > 0:
        way = min(ways)
        ways.remove(way)
        here = way[2]
        if (here & wanted) == wanted:
            return (way[0], way[1])
        if here not in passed:
            passed[here] = True
            ways.extend(dearer_ways(acts, way))
    return None


def dearer_ways(acts, way):
    """A way of cheapest_plan, with each act behind it that may be done there."""
    return [
        (way[0] + act.cost, way[1] + (number,), act.state_behind(way[2]))
        for number, act in enumerate(acts) if act.may_be_done(way[2])
    ]


def nearest_plan(acts, rest, state, wanted):
    """How far, the cost and the acts' numbers of the plan that is nearest to the rest, or None."""
    # Place k is where the first k acts of the rest were kept or left out.
    passed = [{} for place in range(len(rest) + 1)]
    found = [[] for place in range(len(rest) + 1)]
    found[0].append((state, (0, 0, ())))
    far = 0
    while True:
        layer = layer_of(acts, rest, found, passed)
        if all([len(ways) == 0 for ways in layer]):
            return None
        ends = [way for there, way in layer[-1].items() if (there & wanted) == wanted]
        if len(ends) > 0:
            best = min(ends)
            return (far, best[0], best[2])
        found = one_farther(acts, layer)
        far += 1


def layer_of(acts, rest, found, passed):
    """For each place the best way to each state that is come to there just so far: as found, or by keeping acts."""
    layer = []
    for place, pairs in enumerate(found):
        kept = []
        if place > 0:
            kept = ways_on(acts, rest[place - 1], layer[place - 1])
        layer.append(best_ways(pairs + kept, passed[place]))
    return layer


def best_ways(pairs, passed):
    """The best way to each state that wasn't passed less far, which is passed from then on."""
    ways = {}
    for state, way in pairs:
        if state not in passed and (state not in ways or way < ways[state]):
            ways[state] = way
    for state in ways:
        passed[state] = True
    return ways


def one_farther(acts, layer):
    """For each place the states with their ways that come of a layer by putting in an act or leaving one out."""
    found = []
    for place, ways in enumerate(layer):
        pairs = []
        for number in range(len(acts)):
            pairs.extend(ways_on(acts, number, ways))
        if place > 0:
            pairs.extend(list(layer[place - 1].items()))
        found.append(pairs)
    return found


def ways_on(acts, number, ways):
    """The states with their ways behind one act, from each state in which it may be done."""
    act = acts[number]
    return [
        (act.state_behind(state), (way[0] + act.cost, way[1] + 1, way[2] + (number,)))
        for state, way in ways.items() if act.may_be_done(state)
    ]
