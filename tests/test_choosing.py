"""Points 6 to 8: barrels left out, least capacities, best places, first differences."""

import random
import time
import unittest

from barrelrow.choosing import best_place, change_without, first_difference, held_back, least_capacity
from barrelrow.errors import InvalidNumber, InvalidRow, UnknownBarrel
from barrelrow.rows import Row, long_run
from tests import simulation
from tests.samples import NAMES, example, random_slow_row, slow_rows, small_barrel, small_rain, small_row

BIG = 10 ** 9


class LeftOut(unittest.TestCase):
    def test_against_simulations(self):
        rng = random.Random(61)
        signs = {}
        for _ in range(800):
            row = small_row(rng)
            with_all = simulation.per_round(row.rain, row.barrels)
            lost = simulation.lost_per_round(row.rain, row.barrels)
            for name in row.names:
                left = [barrel for barrel in row.barrels if barrel[0] != name]
                held = simulation.lost_per_round(row.rain, left) - lost
                self.assertEqual(held_back(row, name), held)
                signs[(held > 0) - (held < 0)] = True
                without = simulation.per_round(row.rain, left) if left else {}
                expected = [(other[0], (with_all[other[0]][0], without[other[0]][0])) for other in left
                            if with_all[other[0]][0] != without[other[0]][0]]
                self.assertEqual(list(change_without(row, name).items()), expected)
        self.assertEqual(sorted(signs), [-1, 0, 1])

    def test_the_only_barrel(self):
        self.assertEqual(held_back(Row((5,), ("a", 3, 2, (1,))), "a"), -9)
        self.assertEqual(held_back(Row((5,), ("a", 3, 0, (1,))), "a"), 0)
        self.assertEqual(change_without(Row((5,), ("a", 3, 2, (1,))), "a"), {})

    def test_what_a_barrel_holds_back(self):
        # The lower barrel saves three of the four units that overflow from the upper one.
        row = Row((9, 0), ("up", 5, 1, (0, 5)), ("low", 3, 0, (0, 3)))
        self.assertEqual(held_back(row, "low"), 3)
        self.assertEqual(held_back(row, "up"), -1)
        self.assertEqual(change_without(row, "up"), {"low": (3, 0)})
        self.assertEqual(change_without(row, "low"), {})

    def test_slow_rows(self):
        rng = random.Random(62)
        for row in slow_rows() + [random_slow_row(rng) for _ in range(60)]:
            run = long_run(row)
            for name in row.names:
                if len(row) == 1:
                    continue
                less = row - name
                then = long_run(less)
                self.assertEqual(held_back(row, name), then[less.names[-1]][2] - run[row.names[-1]][2])
                changed = change_without(row, name)
                for other in less.names:
                    drawn = (run[other][0], then[other][0])
                    self.assertEqual(changed.get(other), drawn if drawn[0] != drawn[1] else None)

    def test_unknown_barrels(self):
        for row in (example(), Row.equal((1,), 1, "a")):
            for call in (held_back, change_without):
                for name in ("mid", "", "TOP"):
                    with self.assertRaises(UnknownBarrel) as caught:
                        call(row, name)
                    self.assertEqual(caught.exception.name, name)


class Capacities(unittest.TestCase):
    def missed_in_long_run(self, row, name, capacity):
        return long_run(row.with_capacity(name, capacity))[name][1]

    def missed(self, row, name, capacity):
        """Return what a simulation misses per round; great capacities take it too long."""
        if capacity > 10 ** 4:
            return self.missed_in_long_run(row, name, capacity)
        barrels = [(name, capacity) + barrel[2:] if barrel[0] == name else barrel for barrel in row.barrels]
        return simulation.per_round(row.rain, barrels)[name][1]

    def check(self, row, name, goal, missed):
        least = least_capacity(row, name, goal)
        if least is None:
            self.assertGreater(missed(row, name, BIG), goal)
            return None
        self.assertIn(least, range(BIG + 1))
        self.assertLessEqual(missed(row, name, least), goal)
        if least > 0:
            self.assertGreater(missed(row, name, least - 1), goal)
        return least

    def test_against_simulations(self):
        rng = random.Random(63)
        kinds = {}
        for _ in range(250):
            row = small_row(rng)
            for name in row.names:
                for goal in (0, 1, rng.randint(0, 20), 10 ** 12):
                    least = self.check(row, name, goal, self.missed)
                    kinds[least is None, least == 0] = True
                # A goal that is met exactly is met.
                self.check(row, name, self.missed(row, name, rng.randint(0, 9)), self.missed)
        self.assertEqual(len(kinds), 3)

    def test_the_greatest_goal_is_always_met(self):
        wishes = (BIG,) * 12
        row = Row((0,) * 12, ("a", BIG, 1, wishes))
        self.assertEqual(least_capacity(row, "a", 12 * BIG), 0)
        self.assertIsNone(least_capacity(row, "a", 12 * BIG - 1))
        self.assertEqual(least_capacity(row, "a", 10 ** 12), 0)

    def test_the_present_capacity_does_not_matter(self):
        for capacity in (0, 1, 5, BIG):
            row = Row((10, 0, 0), ("a", capacity, 1, (2, 4, 3)))
            self.assertEqual([least_capacity(row, "a", goal) for goal in range(10)], [9, 8, 7, 6, 5, 4, 3, 2, 1, 0])

    def test_great_capacities(self):
        rain = (10 ** 6,) * 10 + (0, 0)
        wishes = (0,) * 11 + (BIG,)
        for roof, goal, expected in ((100, 0, BIG), (100, 1, BIG - 1), (100, BIG, 0), (99, 0, None),
                                     (99, 10 ** 7, 99 * 10 ** 7), (99, 10 ** 7 - 1, None)):
            self.assertEqual(least_capacity(Row(rain, ("a", 1, roof, wishes)), "a", goal), expected)

    def test_slow_rows(self):
        rng = random.Random(64)
        for row in slow_rows() + [random_slow_row(rng) for _ in range(40)]:
            for name in row.names:
                for goal in (0, 1, rng.randint(0, 10 ** 6)):
                    self.check(row, name, goal, self.missed_in_long_run)

    def test_errors_in_order(self):
        row = example()
        for goal in (0, -1, 10 ** 12 + 1):
            with self.assertRaises(UnknownBarrel) as caught:
                least_capacity(row, "mid", goal)
            self.assertEqual(caught.exception.name, "mid")
        for goal in (-1, 10 ** 12 + 1, 10 ** 18, True):
            with self.assertRaises(InvalidNumber):
                least_capacity(row, "top", goal)


class Places(unittest.TestCase):
    def test_against_simulations(self):
        rng = random.Random(65)
        places = {}
        for _ in range(1500):
            row = small_row(rng, 1, 4)
            name = rng.choice([name for name in NAMES if name not in row.names])
            barrel = small_barrel(rng, name, row.rain)
            missed = []
            for place in range(len(row) + 1):
                barrels = list(row.barrels)
                barrels.insert(place, barrel)
                missed.append(simulation.missed_per_round(row.rain, barrels))
            place, least = best_place(row, barrel)
            self.assertEqual(least, min(missed))
            self.assertEqual(place, missed.index(min(missed)))
            places[place] = True
        self.assertEqual(sorted(places), [0, 1, 2, 3, 4])

    def test_result_is_a_tuple(self):
        self.assertIs(type(best_place(example(), ("new", 5, 0, (1, 0)))), tuple)

    def check_refused(self, row, barrel):
        before = row.barrels
        with self.assertRaises(InvalidRow) as caught:
            best_place(row, barrel)
        self.assertEqual((caught.exception.part, caught.exception.index), ("barrels", len(before)))
        self.assertEqual(row.barrels, before)

    def test_refused_barrels(self):
        rng = random.Random(66)
        for count in range(1, 5):
            rain = small_rain(rng, 2)
            row = Row(rain, *[small_barrel(rng, name, rain) for name in NAMES[:count]])
            wrong = [("", 1, 1, (0, 0)), ("abcdefghi", 1, 1, (0, 0)), ("New", 1, 1, (0, 0)), ("n", -1, 1, (0, 0)),
                     ("n", BIG + 1, 1, (0, 0)), ("n", 1, -1, (0, 0)), ("n", 1, 101, (0, 0)), ("n", 1, 1, (0,)),
                     ("n", 1, 1, (0, 0, 0)), ("n", 1, 1, (-1, 0)), ("n", 1, 1, (0, BIG + 1)), ("n", True, 1, (0, 0))]
            for barrel in wrong + [(name, 1, 1, (0, 0)) for name in row.names] + list(row.barrels):
                self.check_refused(row, barrel)

    def test_a_row_of_five_has_no_place(self):
        row = Row.equal((1,), 1, *"abcde")
        for barrel in (("f", 1, 1, (0,)), ("a", 1, 1, (0,)), ("F", 1, 1, (0,)), ("f", -1, 1, ())):
            self.check_refused(row, barrel)


class Differences(unittest.TestCase):
    def expected(self, one, other, name):
        levels = simulation.run(one.rain, one.barrels, 2001)[0]
        others = simulation.run(other.rain, other.barrels, 2001)[0]
        for tick in range(2001):
            if levels[tick][name] != others[tick][name]:
                return tick
        return None

    def check(self, one, other):
        for name in one.names:
            if name in other:
                expected = self.expected(one, other, name)
                self.assertEqual(first_difference(one, other, name), expected)
                self.assertEqual(first_difference(other, one, name), expected)
                return expected
        return None

    def test_rows_that_are_nearly_equal(self):
        rng = random.Random(67)
        found = {}
        for _ in range(120):
            row = small_row(rng)
            name = rng.choice(row.names)
            change = rng.randrange(4)
            if change == 0:
                other = row.with_capacity(name, max(0, row[name][0] + rng.choice((-1, 1, 5))))
            elif change == 1:
                other = row.with_rain(rng.randrange(len(row.rain)), rng.randint(0, 5))
            elif change == 2 and len(row) > 1:
                other = row - name
            elif len(row.rain) > 6:
                other = row
            else:
                other = Row(row.rain * 2, *[barrel[:3] + (barrel[3] * 2,) for barrel in row.barrels])
            found[self.check(row, other) is None] = True
        self.assertEqual(len(found), 2)

    def test_unrelated_rows(self):
        rng = random.Random(68)
        for _ in range(120):
            one, other = (
                Row(rain, small_barrel(rng, "up", rain), small_barrel(rng, "low", rain))
                for rain in (small_rain(rng), small_rain(rng)))
            self.check(one, other)
            self.check(other - "up", one)

    def test_rounds_of_other_lengths(self):
        # They differ only in a tick that is the last one of both rounds: after 11 times 12 ticks.
        one = Row((1,) + (0,) * 10, ("a", 1, 1, (0,) * 10 + (1,)))
        other = Row((1,) + (0,) * 11, ("a", 1, 1, (0,) * 11 + (1,)))
        self.assertEqual(self.check(one, other), 10)
        drained = Row((1,) * 11, ("a", 1, 1, (0,) * 10 + (1,)))
        never = Row((1,) * 12, ("a", 1, 1, (0,) * 12))
        self.assertEqual(self.check(drained, never), 10)

    def test_one_row_settles_late_and_the_other_at_once(self):
        for length in (1, 5, 12):
            draws = (0,) * length
            still = Row((1,) * length, ("low", 9, 0, draws))
            for capacity in (0, 1, 12, 13, 700, 1999, 2000, 2001):
                filling = Row((1,) * length, ("up", capacity, 1, draws), ("low", 9, 0, draws))
                self.assertEqual(self.check(still, filling), capacity if capacity <= 2000 else None)

    def test_rounds_of_two_lengths_that_leave_little(self):
        rng = random.Random(69)
        found = {}
        for _ in range(60):
            rows = []
            for length in rng.sample((5, 7, 9, 11, 12), 2):
                rain = [2] * length
                rain[rng.randrange(length)] = 3
                rows.append(Row(tuple(rain), ("up", 3, 1, (2,) * length), ("low", 9, 0, (1,) * length)))
            found[self.check(*rows)] = True
        self.assertGreater(len(found), 5)

    def test_differences_after_settling(self):
        # Settled from the beginning, these rows draw together only in tick 7 of 11 and 8 of 12.
        def wet(length, at):
            return Row((1,) * length, ("a", 2, 2, tuple(2 * int(tick == at) for tick in range(length))))
        for first, second in ((7, 8), (0, 11), (10, 0)):
            self.assertEqual(self.check(wet(11, first), wet(12, second)), min(first, second))
        same = wet(4, 1)
        doubled = wet(4, 1)
        doubled = Row(doubled.rain * 3, *[barrel[:3] + (barrel[3] * 3,) for barrel in doubled.barrels])
        self.assertIsNone(self.check(same, doubled))
        nearly = doubled.with_rain(9, 0)
        self.assertEqual(self.check(same, nearly), self.expected(same, nearly, "a"))

    def test_the_last_tick_is_2000(self):
        for capacity in (1998, 1999, 2000, 2001, BIG - 1):
            one = Row((1,), ("a", capacity, 1, (0,)))
            other = Row((1,), ("a", capacity + 1, 1, (0,)))
            expected = capacity if capacity <= 2000 else None
            self.assertEqual(first_difference(one, other, "a"), expected)
            self.assertEqual(self.expected(one, other, "a"), expected)
        for length in (7, 11, 12):
            draws = (0,) * length
            one = Row((1,) * length, ("a", 2000, 1, draws), ("b", BIG, 0, draws))
            other = Row((1,) * length, ("a", 2001, 1, draws), ("b", BIG, 0, draws))
            self.assertEqual(first_difference(one, other, "a"), 2000)
            self.assertEqual(first_difference(one, other, "b"), 2000)
            self.assertIsNone(first_difference(one.with_capacity("a", 2001), other, "b"))
            self.assertIsNone(first_difference(one.with_capacity("a", 2002), other, "a"))

    def test_other_capacities_of_equal_levels_do_not_differ(self):
        one = Row((1,), ("a", 5, 1, (1,)))
        self.assertIsNone(first_difference(one, one.with_capacity("a", 50), "a"))
        self.assertIsNone(first_difference(one, one, "a"))

    def test_unknown_barrels(self):
        row = example()
        less = row - "top"
        for one, other, name in ((row, less, "top"), (less, row, "top"), (less, less, "top"), (row, row, "mid")):
            with self.assertRaises(UnknownBarrel) as caught:
                first_difference(one, other, name)
            self.assertEqual(caught.exception.name, name)


class Speed(unittest.TestCase):
    def test_small_rows_take_milliseconds(self):
        rng = random.Random(70)
        rows = [small_row(rng, 1, 4) for _ in range(300)]
        begun = time.perf_counter()
        for row in rows:
            name = row.names[-1]
            held_back(row, name)
            change_without(row, name)
            least_capacity(row, name, 0)
            best_place(row, ("new", 5, 1, (1,) * len(row.rain)))
            first_difference(row, row.with_rain(0, 5), name)
        self.assertLess(time.perf_counter() - begun, 75)


if __name__ == "__main__":
    unittest.main()
