"""What one barrel more, another capacity or another place is worth."""

from math import lcm

from barrelrow.errors import InvalidRow
from barrelrow.rows import MAX_CAPACITY, Row, barrels_down_to, check_number, is_barrel
from barrelrow.rows import long_run, place_of, settled_round
from barrelrow.search import first_number
from barrelrow.water import for_ticks, pass_ticks

MAX_GOAL = 10 ** 12
LAST_COMPARED = 2000


def lost_per_round(row):
    """Return how much is lost per round in the long run."""
    return long_run(row)[row.names[-1]][2]


def held_back(row, name):
    """Return how much more would be lost per round in the long run without a barrel."""
    place_of(row, name)
    if len(row) == 1:
        return -lost_per_round(row)
    return lost_per_round(row - name) - lost_per_round(row)


def change_without(row, name):
    """Return what is drawn from other barrels with and without a barrel, where it differs."""
    place_of(row, name)
    if len(row) == 1:
        return {}
    present = long_run(row)
    then = long_run(row - name)
    return {other: (present[other][0], then[other][0]) for other in then if present[other][0] != then[other][0]}


def least_capacity(row, name, goal):
    """Return the least capacity with which at most `goal` is missed per round, or None."""
    barrels = barrels_down_to(row, name)
    check_number(goal, 0, MAX_GOAL)
    upper = Row(row.rain, *barrels)
    if missed_with(upper, name, MAX_CAPACITY) > goal:
        return None
    # With more capacity, never more is missed.
    return first_number(0, MAX_CAPACITY, lambda capacity: missed_with(upper, name, capacity) <= goal)


def missed_with(row, name, capacity):
    """Return how much is missed from a barrel per round in the long run with this capacity."""
    return long_run(row.with_capacity(name, capacity))[name][1]


def best_place(row, barrel):
    """Return the first place for another barrel at which least is missed, and how much."""
    if len(row) == Row.MAX_BARRELS or not is_barrel(barrel, len(row.rain)) or barrel[0] in row:
        raise InvalidRow(part="barrels", index=len(row))
    misses = [missed_per_round(with_barrel(row, barrel, place)) for place in range(len(row) + 1)]
    least = min(misses)
    return misses.index(least), least


def with_barrel(row, barrel, place):
    """Return the row with another barrel at this place."""
    barrels = row.barrels[:place] + (barrel,) + row.barrels[place:]
    return Row(row.rain, *barrels)


def missed_per_round(row):
    """Return how much is missed per round in the long run, from all barrels together."""
    run = long_run(row)
    return sum([run[name][1] for name in run])


def first_difference(one, other, name):
    """Return the first tick, up to 2000, after which the levels of a barrel differ, or None."""
    place_of(one, name)
    place_of(other, name)
    ticks = 1 + last_to_compare(one, other)
    levels = levels_of(one, name, ticks)
    others = levels_of(other, name, ticks)
    for tick in range(ticks):
        if levels[tick] != others[tick]:
            return tick
    return None


def last_to_compare(one, other):
    """Return the last tick in which two rows can begin to differ, 2000 at most."""
    settled = max(settled_round(one) * len(one.rain), settled_round(other) * len(other.rain))
    return min(LAST_COMPARED, settled + lcm(len(one.rain), len(other.rain)) - 1)


def levels_of(row, name, ticks):
    """Return the levels of a barrel after the first ticks: as many as wanted, or some more."""
    rounds = ticks // len(row.rain) + 1
    # All these rounds pass as if they were one long round.
    barrels = for_ticks(barrels_down_to(row, name), ticks)
    passages = pass_ticks(row.rain * rounds, barrels, [0] * len(barrels))
    return passages[-1].after
