"""What the rain in one tick of a round can have been if levels were seen."""

from barrelrow.errors import Contradiction
from barrelrow.rows import LAST_TICK, MAX_FALL, check_number, place_of
from barrelrow.search import first_number


class RainObserver:
    """Knows a row except for the rain in one tick of the round.

    More rain never leads to lower levels, so two numbers tell all the possible amounts.
    """

    def __init__(self, row, index):
        check_number(index, 0, len(row.rain) - 1)
        self._row = row
        self._index = index
        self._least = 0
        self._greatest = MAX_FALL
        self._seen = []

    @property
    def possible_rain(self):
        """The least and the greatest possible amount."""
        return self._least, self._greatest

    @property
    def records(self):
        """All accepted observations, tuples (name, tick, level)."""
        return list(self._seen)

    def see(self, name, tick, level):
        """Record the level of a barrel after a tick; return how many amounts remain possible."""
        place_of(self._row, name)
        check_number(tick, 0, LAST_TICK)
        least = self._first_with(name, tick, level)
        greatest = self._first_with(name, tick, level + 1) - 1
        if least > greatest:
            raise Contradiction("no amount of rain agrees with this level")
        self._least = least
        self._greatest = greatest
        self._seen.append((name, tick, level))
        return greatest - least + 1

    def level_range(self, name, tick):
        """Return the least and the greatest level that a barrel can have after a tick."""
        return self._level_with(self._least, name, tick), self._level_with(self._greatest, name, tick)

    def _level_with(self, amount, name, tick):
        """Return the level of a barrel after a tick if the unknown rain is this amount."""
        row = self._row.with_rain(self._index, amount)
        return row(name, tick)

    def _first_with(self, name, tick, level):
        """Return the least possible amount with at least this level, or one more than all."""
        behind = self._greatest + 1
        return first_number(self._least, behind, lambda amount: self._level_with(amount, name, tick) >= level)
