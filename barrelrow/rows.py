"""Rows of barrels, and what happens in them."""

from barrelrow.errors import InvalidNumber, InvalidRow, OtherRain, UnknownBarrel
from barrelrow.water import pass_ticks, settle, walk

MAX_FALL = 10 ** 6
MAX_LETTERS = 8
MAX_CAPACITY = 10 ** 9
MAX_ROOF = 100
MAX_WISH = 10 ** 9
LAST_TICK = 10 ** 18


class Row:
    """Barrels on a slope, the upper ones first, and the rain of a round.

    A barrel is a tuple (name, capacity, roof, draws).
    """

    MAX_BARRELS = 5
    MAX_TICKS = 12

    def __init__(self, rain, *barrels):
        check_rain(rain)
        check_barrels(barrels, len(rain))
        self._rain = tuple(rain)
        self._barrels = barrels

    @classmethod
    def equal(cls, rain, capacity, *names):
        """Return a row of barrels that are all alike, from which nobody draws."""
        draws = (0,) * len(rain)
        barrels = [(name, capacity, 1, draws) for name in names]
        return cls(rain, *barrels)

    @property
    def rain(self):
        """The amounts of rain in the ticks of a round."""
        return self._rain

    @property
    def barrels(self):
        """All barrels, in order."""
        return self._barrels

    @property
    def names(self):
        """The names of all barrels, in order."""
        return tuple([barrel[0] for barrel in self._barrels])

    def __len__(self):
        return len(self._barrels)

    def __contains__(self, x):
        return x in self.names

    def __getitem__(self, at):
        barrel = self._barrels[place_of(self, at)]
        return barrel[1:]

    def __iter__(self):
        raise TypeError("a row cannot be iterated over")

    def __sub__(self, other):
        place = place_of(self, other)
        barrels = self._barrels[:place] + self._barrels[place + 1:]
        return Row(self._rain, *barrels)

    def __add__(self, other):
        if self._rain != other.rain:
            raise OtherRain("the rain of the rows is not equal")
        barrels = self._barrels + other.barrels
        return Row(self._rain, *barrels)

    def __eq__(self, other):
        return isinstance(other, Row) and self._rain == other._rain and self._barrels == other._barrels

    def __call__(self, name, tick):
        """Return the level of a barrel after a tick."""
        barrels = barrels_down_to(self, name)
        check_number(tick, 0, LAST_TICK)
        rounds, index = divmod(tick, len(self._rain))
        levels, _ = walk(self._rain, barrels, rounds)
        passages = pass_ticks(self._rain[:index + 1], barrels, levels)
        return passages[-1].after[-1]

    def with_capacity(self, name, capacity):
        """Return the row in which a barrel has this capacity."""
        place = place_of(self, name)
        barrels = list(self._barrels)
        barrels[place] = (name, capacity) + barrels[place][2:]
        return Row(self._rain, *barrels)

    def with_rain(self, index, amount):
        """Return the row with this amount of rain in a tick of the round."""
        check_number(index, 0, len(self._rain) - 1)
        rain = self._rain[:index] + (amount,) + self._rain[index + 1:]
        barrels = self._barrels
        return Row(rain, *barrels)


def is_number(number, least, greatest):
    """Tell whether a value is an integer in this range; a boolean is not."""
    return isinstance(number, int) and not isinstance(number, bool) and least <= number <= greatest


def check_number(number, least, greatest):
    """Raise InvalidNumber unless a number is in this range."""
    if not is_number(number, least, greatest):
        raise InvalidNumber(f"not a number from {least} to {greatest}")


def is_name(name):
    """Tell whether a name has one to eight letters a to z."""
    return 1 <= len(name) <= MAX_LETTERS and all(["a" <= letter <= "z" for letter in name])


def is_barrel(barrel, ticks):
    """Tell whether a barrel is valid in a row with so many ticks in a round."""
    name, capacity, roof, draws = barrel
    if not is_name(name) or len(draws) != ticks:
        return False
    if not is_number(capacity, 0, MAX_CAPACITY) or not is_number(roof, 0, MAX_ROOF):
        return False
    return all([is_number(wish, 0, MAX_WISH) for wish in draws])


def check_rain(rain):
    """Raise InvalidRow with the first fault of the rain of a row."""
    if len(rain) == 0:
        raise InvalidRow(part="rain", index=-1)
    for index, amount in enumerate(rain):
        if index == Row.MAX_TICKS or not is_number(amount, 0, MAX_FALL):
            raise InvalidRow(part="rain", index=index)


def check_barrels(barrels, ticks):
    """Raise InvalidRow with the first fault of the barrels of a row."""
    if len(barrels) == 0:
        raise InvalidRow(part="barrels", index=-1)
    names = [barrel[0] for barrel in barrels]
    for index, barrel in enumerate(barrels):
        known = names[index] in names[:index]
        if known or index == Row.MAX_BARRELS or not is_barrel(barrel, ticks):
            raise InvalidRow(part="barrels", index=index)


def place_of(row, name):
    """Return the place of a barrel in a row, from 0; raise UnknownBarrel if it has none."""
    for place, known in enumerate(row.names):
        if known == name:
            return place
    raise UnknownBarrel(name=name)


def barrels_down_to(row, name):
    """Return a barrel and all above it: those below do not matter to it."""
    return row.barrels[:place_of(row, name) + 1]


def totals(row, ticks):
    """Return what is drawn, missed and overflows at each barrel in the first so many ticks."""
    check_number(ticks, 0, LAST_TICK)
    rounds, rest = divmod(ticks, len(row.rain))
    levels, steps = walk(row.rain, row.barrels, rounds)
    steps.append((1, pass_ticks(row.rain[:rest], row.barrels, levels)))
    return {name: add_steps(steps, place) for place, name in enumerate(row.names)}


def add_steps(steps, place):
    """Return what is drawn, missed and overflows at one barrel in all rounds of some steps."""
    drawn = sum([count * sum(passages[place].drawn) for count, passages in steps])
    missed = sum([count * sum(passages[place].missed) for count, passages in steps])
    over = sum([count * sum(passages[place].over) for count, passages in steps])
    return drawn, missed, over


def lost(row, ticks):
    """Return how much is lost in the first so many ticks."""
    return totals(row, ticks)[row.names[-1]][2]


def settled_round(row):
    """Return the first round, from 0, that is like all later ones."""
    return settle(row.rain, row.barrels)[0]


def long_run(row):
    """Return what is drawn, missed and overflows at each barrel per settled round."""
    passages = settle(row.rain, row.barrels)[1]
    return {name: passage.sums() for name, passage in zip(row.names, passages)}


def first_missed(row, name, tick):
    """Return the first tick, from a given one on, in which something is missed, or None."""
    barrels = barrels_down_to(row, name)
    check_number(tick, 0, LAST_TICK)
    rounds, index = divmod(tick, len(row.rain))
    levels, _ = walk(row.rain, barrels, rounds)
    present = pass_ticks(row.rain, barrels, levels)
    following = pass_ticks(row.rain, barrels, [passage.after[-1] for passage in present])
    # No round has less water than the one before it, so two rounds tell of all later ones.
    missed = present[-1].missed + following[-1].missed
    for at in range(index, len(missed)):
        if missed[at] > 0:
            return rounds * len(row.rain) + at
    return None
