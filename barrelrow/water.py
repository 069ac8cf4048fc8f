"""How water passes through barrels, tick by tick and round by round.

Barrels are tuples (name, capacity, roof, draws), the upper ones first.
"""

# More rounds than any row can be asked for, and than any row needs to settle.
FOREVER = 10 ** 18 + 1


class Passage:
    """What happens at one barrel in ticks that follow each other, one item a tick."""

    def __init__(self, start, barrel, inflow):
        self.start = start
        self.capacity = barrel[1]
        self.after = []
        self.drawn = []
        self.missed = []
        self.over = []
        self.let_in(inflow, barrel[3])

    def let_in(self, inflow, draws):
        """Let the water of each tick come in, overflow and be drawn."""
        level = self.start
        for water, wish in zip(inflow, draws):
            over = max(0, level + water - self.capacity)
            there = level + water - over
            drawn = min(there, wish)
            level = there - drawn
            self.after.append(level)
            self.drawn.append(drawn)
            self.missed.append(wish - drawn)
            self.over.append(over)

    def gain(self):
        """Return by how much the level has risen; from empty barrels on, no round lowers it."""
        return self.after[-1] - self.start

    def sums(self):
        """Return how much is drawn, missed and overflows in all the ticks."""
        return sum(self.drawn), sum(self.missed), sum(self.over)

    def rounds_alike(self):
        """Return in how many rounds, this one first, the same is drawn, missed and overflows.

        This holds as long as the same water comes in. The ticks are those of a whole round.
        """
        gain = self.gain()
        if gain == 0:
            return FOREVER
        # Behind a tick that runs dry, the level does not depend on the start: this gain does not come again.
        if sum(self.missed) > 0:
            return 1
        # The gain can come again until it does not fit; where it overflows already, nothing fits.
        highest = max([level + drawn for level, drawn in zip(self.after, self.drawn)])
        return 1 + (self.capacity - highest) // gain


def pass_ticks(rain, barrels, levels):
    """Let ticks with this rain pass from these levels on; return the passage of each barrel."""
    passages = []
    over = [0] * len(rain)
    for barrel, level in zip(barrels, levels):
        inflow = [fall * barrel[2] + more for fall, more in zip(rain, over)]
        passage = Passage(level, barrel, inflow)
        over = passage.over
        passages.append(passage)
    return passages


def for_ticks(barrels, ticks):
    """Return the barrels with their wishes for so many ticks, or some more, instead of one round."""
    return [
        (name, capacity, roof, draws * (ticks // len(draws) + 1)) for name, capacity, roof, draws in barrels
    ]


def walk(rain, barrels, rounds):
    """Let so many rounds pass, from empty barrels on.

    Return the levels after them, and a list of pairs (count, passages): so many
    rounds in a row in which what is drawn, missed and overflows is as in the passages.

    Each barrel changes its ways only a few times: it may first run dry in some tick,
    then it gains the same in each round, then it overflows in some tick. So there
    are few pairs, however many rounds there are.
    """
    levels = [0] * len(barrels)
    steps = []
    left = rounds
    while left > 0:
        passages = pass_ticks(rain, barrels, levels)
        count = min([left] + [passage.rounds_alike() for passage in passages])
        levels = [passage.start + count * passage.gain() for passage in passages]
        steps.append((count, passages))
        left = left - count
    return levels, steps


def settle(rain, barrels):
    """Return the first round that is like all later ones, and the passages of it."""
    steps = walk(rain, barrels, FOREVER)[1]
    count, passages = steps[-1]
    return FOREVER - count, passages
