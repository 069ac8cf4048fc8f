"""A plain simulation of rows, tick by tick, to which the tests compare the package.

It shares no code with the package. Barrels are tuples (name, capacity, roof, draws).
"""


def one_tick(levels, fall, at, barrels):
    """Let tick `at` of a round pass; change the dict of levels, return a dict of flows."""
    flows = {}
    coming = 0
    for name, capacity, roof, draws in barrels:
        level = levels[name] + coming + fall * roof
        coming = 0
        if level > capacity:
            coming = level - capacity
            level = capacity
        wish = draws[at]
        if wish <= level:
            drawn, missed = wish, 0
        else:
            drawn, missed = level, wish - level
        levels[name] = level - drawn
        flows[name] = (drawn, missed, coming)
    return flows


def empty(barrels):
    return {barrel[0]: 0 for barrel in barrels}


def play(falls, barrels, length):
    """Return the levels after each tick, and the flows in each, as lists of dicts.

    So much rain falls in each tick; the wishes come again after `length` ticks.
    """
    levels = empty(barrels)
    all_levels = []
    all_flows = []
    for tick, fall in enumerate(falls):
        all_flows.append(one_tick(levels, fall, tick % length, barrels))
        all_levels.append(dict(levels))
    return all_levels, all_flows


def run(rain, barrels, ticks):
    """Return what `play` returns for so many ticks with the rain of the rounds."""
    return play([rain[tick % len(rain)] for tick in range(ticks)], barrels, len(rain))


def add_flows(barrels, all_flows):
    """Return the sums of flows, as a dict from names to (drawn, missed, overflowed)."""
    sums = {barrel[0]: (0, 0, 0) for barrel in barrels}
    for flows in all_flows:
        for name, flow in flows.items():
            sums[name] = tuple(a + b for a, b in zip(sums[name], flow))
    return sums


def rounds_to_rest(rain, barrels, most=100000):
    """Return a list of what happens in each round, until one leaves the levels as they were.

    Each item is a pair: the levels after each tick, and the flows in each.
    """
    levels = empty(barrels)
    rounds = []
    while len(rounds) < most:
        before = dict(levels)
        happened = ([], [])
        for at, fall in enumerate(rain):
            happened[1].append(one_tick(levels, fall, at, barrels))
            happened[0].append(dict(levels))
        rounds.append(happened)
        if levels == before:
            return rounds
    raise AssertionError("this row does not settle soon enough for a simulation")


def settled(rain, barrels):
    """Return the first round that is like all later ones."""
    rounds = rounds_to_rest(rain, barrels)
    first = len(rounds) - 1
    while first > 0 and rounds[first - 1] == rounds[-1]:
        first -= 1
    return first


def per_round(rain, barrels):
    """Return the sums of the flows of a round in the long run, as a dict."""
    return add_flows(barrels, rounds_to_rest(rain, barrels)[-1][1])


def lost_per_round(rain, barrels):
    """Return what is lost per round in the long run; without barrels, nothing."""
    if not barrels:
        return 0
    return per_round(rain, barrels)[barrels[-1][0]][2]


def missed_per_round(rain, barrels):
    return sum(flow[1] for flow in per_round(rain, barrels).values())
