"""A plain live row: it keeps operations only, and tells what they lead to by going through all of them again.

It shares no code with the package.
"""

from tests import simulation


class Refused(Exception):
    """An operation is impossible: the arguments are the name of the error and what it tells."""


def is_whole(number, least, greatest):
    return type(number) is int and least <= number <= greatest


class State:
    """What there is after some operations, from empty barrels on."""

    def __init__(self, row):
        self.row = row
        self.levels = {name: 0 for name in row.names}
        self.locked = []
        self.ticks = self.lost = self.missed = 0

    def facts(self):
        """Return the values of all properties but the history."""
        locked = [name for name in self.row.names if name in self.locked]
        return self.ticks, dict(self.levels), self.lost, self.missed, locked

    def perform(self, operation):
        word, *rest = operation
        if word == "pour":
            return self.pour(*rest)
        if rest[0] not in self.row.names:
            raise Refused("UnknownBarrel", {"name": rest[0]})
        if word == "scoop":
            return self.scoop(*rest)
        return self.turn(rest[0], word == "lock")

    def pour(self, amount):
        if not is_whole(amount, 0, 1000000):
            raise Refused("InvalidNumber", {})
        at = self.ticks % len(self.row.rain)
        barrels = []
        for name, capacity, roof, draws in self.row.barrels:
            if name in self.locked:
                self.missed += draws[at]
                draws = (0,) * len(draws)
            barrels.append((name, capacity, roof, draws))
        flows = simulation.one_tick(self.levels, amount, at, barrels)
        self.ticks += 1
        self.missed += sum(flow[1] for flow in flows.values())
        lost = flows[self.row.names[-1]][2]
        self.lost += lost
        return lost

    def scoop(self, name, amount):
        if not is_whole(amount, 1, 1000000000):
            raise Refused("InvalidNumber", {})
        taken = 0
        if self.levels[name] <= amount:
            taken, self.levels[name] = self.levels[name], 0
        else:
            taken, self.levels[name] = amount, self.levels[name] - amount
        return taken

    def turn(self, name, lock):
        if lock == (name in self.locked):
            return False
        if lock:
            self.locked.append(name)
        else:
            self.locked.remove(name)
        return True


class PlainLive:
    def __init__(self, row):
        self.row = row
        self.done = []
        self.undone = []

    def state(self):
        state = State(self.row)
        for operation in self.done:
            state.perform(operation)
        return state

    def facts(self):
        return self.state().facts() + (list(self.done),)

    def perform(self, operation):
        result = self.state().perform(operation)
        self.done.append(operation)
        self.undone = []
        return result

    def apply_all(self, operations):
        sizes = {"pour": 2, "scoop": 3, "lock": 2, "unlock": 2}
        for index, operation in enumerate(operations):
            if not operation or sizes.get(operation[0]) != len(operation):
                raise Refused("InvalidOperation", {"index": index})
        kept = self.kept()
        try:
            return [self.perform(operation) for operation in operations]
        except Refused:
            self.restore(kept)
            raise

    def undo(self):
        if self.done:
            self.undone.append(self.done.pop())
            return True
        return False

    def redo(self):
        if self.undone:
            self.done.append(self.undone.pop())
            return True
        return False

    def kept(self):
        return list(self.done), list(self.undone)

    def restore(self, kept):
        self.done, self.undone = list(kept[0]), list(kept[1])
