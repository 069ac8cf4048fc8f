"""Points 4 and 5: levels, sums, the settled round, the long run, what is missed first."""

import random
import time
import unittest

from barrelrow.errors import InvalidNumber, UnknownBarrel
from barrelrow.rows import Row, first_missed, long_run, lost, settled_round, totals
from barrelrow.water import FOREVER, walk
from tests import simulation
from tests.samples import FAR, example, random_slow_row, slow_rows, small_row


def levels(row, tick):
    return {name: row(name, tick) for name in row.names}


def missed_in(flows, name):
    return flows[name][1] > 0


class NearTicks(unittest.TestCase):
    def test_levels_and_sums(self):
        rng = random.Random(41)
        for _ in range(250):
            row = small_row(rng)
            seen, flows = simulation.run(row.rain, row.barrels, 60)
            for tick in range(60):
                self.assertEqual(levels(row, tick), seen[tick])
            for ticks in range(61):
                sums = simulation.add_flows(row.barrels, flows[:ticks])
                found = totals(row, ticks)
                self.assertEqual(found, sums)
                self.assertEqual(list(found), list(row.names))
                self.assertEqual(lost(row, ticks), sums[row.names[-1]][2])

    def test_levels_of_rows_with_much_water(self):
        rng = random.Random(42)
        for _ in range(100):
            row = random_slow_row(rng)
            seen, flows = simulation.run(row.rain, row.barrels, 60)
            for tick in range(60):
                self.assertEqual(levels(row, tick), seen[tick])
            for ticks in (0, 1, 11, 12, 13, 59, 60):
                self.assertEqual(totals(row, ticks), simulation.add_flows(row.barrels, flows[:ticks]))

    def test_settled_round_and_long_run(self):
        rng = random.Random(43)
        for _ in range(1500):
            row = small_row(rng)
            self.assertEqual(settled_round(row), simulation.settled(row.rain, row.barrels))
            found = long_run(row)
            self.assertEqual(found, simulation.per_round(row.rain, row.barrels))
            self.assertEqual(list(found), list(row.names))

    def test_far_ticks_of_rows_that_settle_soon(self):
        rng = random.Random(44)
        for _ in range(200):
            row = small_row(rng)
            round_length = len(row.rain)
            rounds = simulation.rounds_to_rest(row.rain, row.barrels)
            for tick in (FAR, FAR - 1, FAR - rng.randint(2, 40), 10 ** rng.randint(5, 17) + rng.randint(0, 40)):
                tick = max(tick, len(rounds) * round_length)
                self.assertEqual(levels(row, tick), rounds[-1][0][tick % round_length])

    def test_first_missed(self):
        rng = random.Random(45)
        for _ in range(300):
            row = small_row(rng)
            length = len(row.rain)
            rounds = simulation.rounds_to_rest(row.rain, row.barrels)
            flows = [flow for _, of_round in rounds + [rounds[-1]] for flow in of_round]
            for name in row.names:
                for tick in list(range(min(60, len(flows) - length))) + [len(flows) - length - 1]:
                    found = [at for at in range(tick, len(flows)) if missed_in(flows[at], name)]
                    self.assertEqual(first_missed(row, name, tick), found[0] if found else None)
                self.check_far(row, name, rounds[-1][1])

    def check_far(self, row, name, flows):
        length = len(flows)
        for tick in (FAR, FAR - 1, FAR - 17, 10 ** 12):
            found = [at for at in range(tick, tick + length) if missed_in(flows[at % length], name)]
            self.assertEqual(first_missed(row, name, tick), found[0] if found else None)

    def test_first_missed_may_lie_behind_the_last_tick(self):
        row = Row((1,) + (0,) * 11, ("a", 1, 1, (2,) + (0,) * 11), ("b", 5, 1, (0,) * 12))
        self.assertEqual(FAR % 12, 4)
        self.assertEqual(first_missed(row, "a", FAR), FAR + 8)
        self.assertEqual(first_missed(row, "a", FAR - 4), FAR - 4)
        self.assertIsNone(first_missed(row, "b", FAR))

    def test_missed_only_at_first(self):
        row = Row((2, 0), ("a", 9, 1, (0, 1)), ("b", 9, 0, (0, 1)))
        found = [first_missed(row, "b", tick) for tick in (0, 1, 2, 14, 15, 16, 17, 18, 10 ** 18)]
        flows = simulation.run(row.rain, row.barrels, 60)[1]
        last = max(tick for tick in range(60) if missed_in(flows[tick], "b"))
        self.assertEqual(last, 15)
        self.assertEqual(found, [1, 1, 3, 15, 15, None, None, None, None])

    def test_nothing_happens_without_rain_and_wishes(self):
        row = Row.equal((0, 0, 0), 5, "a", "b")
        self.assertEqual(settled_round(row), 0)
        self.assertEqual(levels(row, FAR), {"a": 0, "b": 0})
        self.assertEqual(totals(row, FAR), {"a": (0, 0, 0), "b": (0, 0, 0)})
        self.assertIsNone(first_missed(row, "a", 0))

    def test_overflow_comes_before_drawing(self):
        # Five come in, two of them overflow although three are drawn in this very tick.
        row = Row((5,), ("a", 3, 1, (3,)), ("b", 1, 0, (0,)))
        self.assertEqual([row("a", 0), row("b", 0)], [0, 1])
        self.assertEqual(totals(row, 1), {"a": (3, 0, 2), "b": (0, 0, 1)})
        self.assertEqual(lost(row, 1), 1)


class FarTicks(unittest.TestCase):
    def rows(self):
        rng = random.Random(46)
        return slow_rows() + [random_slow_row(rng) for _ in range(150)]

    def test_levels_follow_from_those_before(self):
        rng = random.Random(47)
        for row in self.rows():
            length = len(row.rain)
            settled = settled_round(row) * length
            ticks = [FAR, 10 ** 9, 10 ** 9 * length, rng.randint(1, 10 ** 9), rng.randint(1, FAR)]
            ticks += [settled + rng.randint(-2 * length, 2 * length) for _ in range(5)]
            ticks += [rng.randint(0, settled) for _ in range(5)]
            for tick in [at for at in ticks if 1 <= at <= FAR]:
                at = tick % length
                before = levels(row, tick - 1)
                flows = simulation.one_tick(before, row.rain[at], at, row.barrels)
                self.assertEqual(levels(row, tick), before)
                if tick < FAR:
                    self.check_sums(row, tick, flows)

    def check_sums(self, row, tick, flows):
        """The sums with this tick are those without it and what it brings."""
        without, with_it = totals(row, tick), totals(row, tick + 1)
        for name in row.names:
            added = tuple(new - old for new, old in zip(with_it[name], without[name]))
            self.assertEqual(added, flows[name])
        self.assertEqual(lost(row, tick + 1) - lost(row, tick), flows[row.names[-1]][2])

    def test_sums_grow_by_long_run_from_the_settled_round_on(self):
        for row in self.rows():
            length = len(row.rain)
            settled = settled_round(row)
            self.assertEqual(self.sums_of_round(row, settled), long_run(row))
            self.assertEqual(self.sums_of_round(row, settled + 1), long_run(row))
            self.assertEqual(self.sums_of_round(row, FAR // length - 1), long_run(row))
            if settled > 0:
                self.assertNotEqual(self.sums_of_round(row, settled - 1), long_run(row))

    def sums_of_round(self, row, number):
        length = len(row.rain)
        before, after = totals(row, number * length), totals(row, (number + 1) * length)
        return {name: tuple(new - old for new, old in zip(after[name], before[name])) for name in row.names}

    def test_levels_are_the_same_from_the_settled_round_on(self):
        for row in self.rows():
            length = len(row.rain)
            settled = settled_round(row)
            same = [levels(row, settled * length + at) for at in range(length)]
            for number in (settled + 1, 2 * settled + 3, FAR // length - 1):
                self.assertEqual([levels(row, number * length + at) for at in range(length)], same)
            if settled > 0:
                before = [levels(row, (settled - 1) * length + at) for at in range(length)]
                sums = self.sums_of_round(row, settled - 1)
                self.assertNotEqual((before, sums), (same, long_run(row)))

    def test_no_water_disappears(self):
        rng = random.Random(48)
        for row in self.rows():
            length = len(row.rain)
            roofs = sum(barrel[2] for barrel in row.barrels)
            for ticks in (1, 60, rng.randint(1, 10 ** 10), rng.randint(1, FAR), FAR):
                rounds, rest = divmod(ticks, length)
                fallen = (rounds * sum(row.rain) + sum(row.rain[:rest])) * roofs
                sums = totals(row, ticks)
                drawn = sum(flow[0] for flow in sums.values())
                there = sum(levels(row, ticks - 1).values())
                self.assertEqual(fallen, drawn + lost(row, ticks) + there)
                for name, _, _, draws in row.barrels:
                    wished = rounds * sum(draws) + sum(draws[:rest])
                    self.assertEqual(sums[name][0] + sums[name][1], wished)

    def test_one_barrel_after_the_other_fills(self):
        row = slow_rows()[0]
        big = 10 ** 9
        self.assertEqual(settled_round(row), 5 * big)
        for tick in (0, 1, big - 1, big, big + 1, 2 * big + 5, 4 * big, 5 * big - 1, 5 * big, FAR):
            fallen = tick + 1
            expected = {name: min(big, max(0, fallen - at * big)) for at, name in enumerate("abcde")}
            self.assertEqual(levels(row, tick), expected)
            if tick < FAR:
                self.assertEqual(lost(row, fallen), max(0, fallen - 5 * big))
        self.assertEqual(lost(row, FAR), FAR - 5 * big)
        self.assertEqual(long_run(row), {name: (0, 0, 1) for name in "abcde"})

    def test_first_missed_of_a_slow_row(self):
        big = 10 ** 9
        row = Row((1,), ("a", big, 1, (0,)), ("b", 5, 0, (1,)))
        for tick in (0, 1, big - 2, big - 1):
            self.assertEqual(first_missed(row, "b", tick), tick)
        for tick in (big, big + 1, FAR):
            self.assertIsNone(first_missed(row, "b", tick))
        self.assertIsNone(first_missed(row, "a", 0))

    def test_first_missed_follows_from_the_sums(self):
        rng = random.Random(49)
        for row in self.rows():
            length = len(row.rain)
            settled = settled_round(row) * length
            for tick in (0, settled, max(0, settled - length), rng.randint(0, 10 ** 9), FAR - 2 * length):
                for name in row.names:
                    found = first_missed(row, name, tick)
                    missed = totals(row, tick)[name][1]
                    if found is None:
                        self.assertEqual(long_run(row)[name][1], 0)
                        self.assertEqual(totals(row, FAR)[name][1], missed)
                    else:
                        self.assertEqual(totals(row, found)[name][1], missed)
                        self.assertGreater(totals(row, found + 1)[name][1], missed)

    def test_few_steps_lead_to_the_end(self):
        for row in self.rows():
            steps = walk(row.rain, row.barrels, FOREVER)[1]
            self.assertLess(len(steps), 100)

    def test_small_rows_take_milliseconds(self):
        rng = random.Random(50)
        rows = [small_row(rng) for _ in range(1000)]
        begun = time.perf_counter()
        for row in rows:
            name = row.names[-1]
            row(name, FAR)
            totals(row, FAR)
            long_run(row)
            first_missed(row, name, FAR)
            settled_round(row)
        self.assertLess(time.perf_counter() - begun, 50)


class TickErrors(unittest.TestCase):
    def test_numbers_out_of_range(self):
        row = example()
        for wrong in (-1, FAR + 1, -FAR, 10 ** 30, True):
            for call in (lambda: row("top", wrong), lambda: totals(row, wrong), lambda: lost(row, wrong),
                         lambda: first_missed(row, "top", wrong)):
                with self.assertRaises(InvalidNumber):
                    call()

    def test_limits_are_allowed(self):
        row = example()
        self.assertEqual(totals(row, 0), {"top": (0, 0, 0), "end": (0, 0, 0)})
        self.assertEqual(lost(row, 0), 0)
        self.assertEqual(row("top", 0), 3)
        self.assertEqual(totals(row, FAR)["top"], (FAR, 0, FAR // 2 - 2))
        self.assertIsNone(first_missed(row, "top", FAR))

    def test_unknown_barrel_comes_before_the_number(self):
        row = example()
        for tick in (0, -1, FAR + 1):
            for call in (lambda: row("mid", tick), lambda: first_missed(row, "mid", tick)):
                with self.assertRaises(UnknownBarrel) as caught:
                    call()
                self.assertEqual(caught.exception.name, "mid")


if __name__ == "__main__":
    unittest.main()
