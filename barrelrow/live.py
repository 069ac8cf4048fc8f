"""Rows that are used step by step."""

from barrelrow.errors import InvalidOperation
from barrelrow.rows import MAX_FALL, check_number, place_of
from barrelrow.water import pass_ticks

MAX_SCOOP = 10 ** 9
# The names of all operations, each with the number of its arguments.
OPERATIONS = (("pour", 1), ("scoop", 2), ("lock", 1), ("unlock", 1))


class Moment:
    """What there is between two operations; nothing changes it."""

    def __init__(self, tick, heights, locks, lost, missed):
        self.tick = tick
        self.heights = heights
        self.locks = locks
        self.lost = lost
        self.missed = missed


class LiveRow:
    """A row that is used step by step, from tick 0 on, with empty barrels."""

    def __init__(self, row):
        self._row = row
        self._moment = Moment(0, (0,) * len(row), (False,) * len(row), 0, 0)
        # Pairs of an operation and the moment before it, and of a reverted one and the moment after it.
        self._done = []
        self._undone = []

    @classmethod
    def replay(cls, row, *operations):
        """Return a live row after operations."""
        live = cls(row)
        live.apply_all(list(operations))
        return live

    @property
    def now(self):
        """The number of ticks that have passed."""
        return self._moment.tick

    @property
    def levels(self):
        """A dict from all names to the present levels."""
        return {name: height for name, height in zip(self._row.names, self._moment.heights)}

    @property
    def lost_water(self):
        """How much has been lost."""
        return self._moment.lost

    @property
    def missed_water(self):
        """How much has been missed, from all barrels together."""
        return self._moment.missed

    @property
    def locked_names(self):
        """The names of all locked barrels, in order."""
        return [name for name, locked in zip(self._row.names, self._moment.locks) if locked]

    @property
    def history(self):
        """The operations in effect, in order: tuples of the name of the method and its arguments."""
        return [step[0] for step in self._done]

    def pour(self, amount):
        """Let a tick pass in which so much rain falls; return how much is lost in it."""
        check_number(amount, 0, MAX_FALL)
        before = self._moment
        self._go_on(("pour", amount), after_tick(self._row, before, amount))
        return self._moment.lost - before.lost

    def scoop(self, name, amount):
        """Take water out of a barrel; return how much there was to take."""
        place = place_of(self._row, name)
        check_number(amount, 1, MAX_SCOOP)
        taken = min(amount, self._moment.heights[place])
        self._go_on(("scoop", name, amount), after_scoop(self._moment, place, taken))
        return taken

    def lock(self, name):
        """Keep a neighbor from drawing; return whether this changes anything."""
        return self._turn(("lock", name), True)

    def unlock(self, name):
        """Let a neighbor draw again; return whether this changes anything."""
        return self._turn(("unlock", name), False)

    def undo(self):
        """Revert the last operation in effect; return whether there is one."""
        if len(self._done) == 0:
            return False
        operation, before = self._done.pop()
        self._undone.append((operation, self._moment))
        self._moment = before
        return True

    def redo(self):
        """Perform the operation again that was reverted last; return whether there is one."""
        if len(self._undone) == 0:
            return False
        operation, after = self._undone.pop()
        self._done.append((operation, self._moment))
        self._moment = after
        return True

    def apply_all(self, operations):
        """Perform all these operations or, if one is impossible, none; return their results."""
        check_operations(operations)
        ahead = LiveRow(self._row)
        ahead._take_over(self)
        results = [ahead._perform(operation) for operation in operations]
        self._take_over(ahead)
        return results

    def _perform(self, operation):
        """Perform one operation; return its result."""
        word = operation[0]
        if word == "pour":
            return self.pour(operation[1])
        if word == "scoop":
            return self.scoop(operation[1], operation[2])
        if word == "lock":
            return self.lock(operation[1])
        return self.unlock(operation[1])

    def _turn(self, operation, locked):
        """Lock or unlock a barrel by an operation; return whether this changes anything."""
        place = place_of(self._row, operation[1])
        before = self._moment
        self._go_on(operation, after_turn(before, place, locked))
        return before.locks[place] != locked

    def _go_on(self, operation, moment):
        """Let an operation take effect that leads to this moment."""
        self._done.append((operation, self._moment))
        self._undone = []
        self._moment = moment

    def _take_over(self, other):
        """Become as another live row of the same row is."""
        self._moment = other._moment
        self._done = list(other._done)
        self._undone = list(other._undone)


class Held:
    """What a live row was at the beginning of a block; `outer` is the one of the block around it."""

    def __init__(self, live, outer):
        self.moment = live._moment
        self.done = list(live._done)
        self.undone = list(live._undone)
        self.outer = outer


class Trial:
    """A context manager: at the end of the block, a live row is as it was at its beginning."""

    def __init__(self, live):
        self._live = live
        self._held = None

    def __enter__(self):
        self._held = Held(self._live, self._held)
        return self._live

    def __exit__(self, kind, value, trace):
        live = self._live
        live._moment = self._held.moment
        live._done = self._held.done
        live._undone = self._held.undone
        self._held = self._held.outer


def after_tick(row, moment, amount):
    """Return the moment after a tick in which so much rain falls."""
    at = moment.tick % len(row.rain)
    wishes = [barrel[3][at] for barrel in row.barrels]
    # What a neighbor wishes behind a lock is not drawn, so it is missed.
    allowed = [0 if locked else wish for wish, locked in zip(wishes, moment.locks)]
    barrels = [barrel[:3] + ((wish,),) for barrel, wish in zip(row.barrels, allowed)]
    passages = pass_ticks((amount,), barrels, moment.heights)
    heights = tuple([passage.after[0] for passage in passages])
    lost = moment.lost + passages[-1].over[0]
    missed = moment.missed + sum(wishes) - sum([passage.drawn[0] for passage in passages])
    return Moment(moment.tick + 1, heights, moment.locks, lost, missed)


def after_scoop(moment, place, taken):
    """Return the moment after so much is taken out of a barrel."""
    heights = list(moment.heights)
    heights[place] = heights[place] - taken
    return Moment(moment.tick, tuple(heights), moment.locks, moment.lost, moment.missed)


def after_turn(moment, place, locked):
    """Return the moment after a barrel is locked or unlocked."""
    locks = list(moment.locks)
    locks[place] = locked
    return Moment(moment.tick, moment.heights, tuple(locks), moment.lost, moment.missed)


def check_operations(operations):
    """Raise InvalidOperation with the index of the first tuple that is no operation."""
    for index, operation in enumerate(operations):
        if len(operation) == 0 or (operation[0], len(operation) - 1) not in OPERATIONS:
            raise InvalidOperation(index=index)
