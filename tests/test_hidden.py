"""Points 9 and 10: what the rain in one tick of a round can have been."""

import random
import time
import unittest

from barrelrow.errors import Contradiction, InvalidNumber, UnknownBarrel
from barrelrow.hidden import RainObserver
from barrelrow.rows import Row
from tests import simulation
from tests.samples import FAR, example, random_slow_row, slow_rows, small_row

MOST = 10 ** 6


def near_level(row, index, amount, name, tick):
    """Return a level of a simulation with this amount of rain."""
    rain = row.rain[:index] + (amount,) + row.rain[index + 1:]
    return simulation.run(rain, row.barrels, tick + 1)[0][tick][name]


def far_level(row, index, amount, name, tick):
    return row.with_rain(index, amount)(name, tick)


class Observing(unittest.TestCase):
    def check_ends(self, observer, row, index, level_with):
        """Just the amounts of the range give the levels that were seen."""
        least, greatest = observer.possible_rain
        self.assertTrue(0 <= least <= greatest <= MOST)
        for amount in (least - 1, least, (least + greatest) // 2, greatest, greatest + 1):
            if 0 <= amount <= MOST:
                agrees = all(level_with(row, index, amount, name, tick) == level
                             for name, tick, level in observer.records)
                self.assertIs(agrees, least <= amount <= greatest)

    def observe(self, rng, row, ticks, level_with):
        index = rng.randrange(len(row.rain))
        observer = RainObserver(row, index)
        self.assertEqual(observer.possible_rain, (0, MOST))
        self.assertEqual(observer.records, [])
        truth = rng.choice((0, MOST, row.rain[index], rng.randint(0, 9), rng.randint(0, 60), rng.randint(0, MOST)))
        accepted = []
        for tick in ticks:
            name = rng.choice(row.names)
            level = level_with(row, index, truth, name, tick)
            if rng.randrange(3) == 0:
                level += rng.choice((-1, 1, -3, 5, -10 ** 10, 10 ** 10))
            self.see(observer, row, index, (name, tick, level), accepted, level_with)
            if observer.possible_rain[0] > truth or observer.possible_rain[1] < truth:
                truth = rng.randint(*observer.possible_rain)
        return observer

    def see(self, observer, row, index, record, accepted, level_with):
        name, tick, level = record
        before = observer.possible_rain
        ends = tuple(level_with(row, index, amount, name, tick) for amount in before)
        self.assertEqual(observer.level_range(name, tick), ends)
        try:
            count = observer.see(*record)
        except Contradiction:
            self.assertEqual(observer.possible_rain, before)
            self.check_nowhere(row, index, record, before, level_with)
        else:
            accepted.append(record)
            least, greatest = observer.possible_rain
            self.assertEqual(count, greatest - least + 1)
            self.assertTrue(before[0] <= least <= greatest <= before[1])
            self.check_ends(observer, row, index, level_with)
            self.assertEqual(observer.level_range(name, tick), (level, level))
        self.assertEqual(observer.records, accepted)

    def check_nowhere(self, row, index, record, before, level_with):
        """No amount of the range gives this level: below some amount less, from it on more."""
        name, tick, level = record
        low, high = before[0] - 1, before[1] + 1
        while high - low > 1:
            middle = (low + high) // 2
            there = level_with(row, index, middle, name, tick)
            self.assertNotEqual(there, level)
            if there < level:
                low = middle
            else:
                high = middle

    def test_near_observations(self):
        rng = random.Random(91)
        for _ in range(150):
            row = small_row(rng, 1, 3)
            ticks = [rng.randint(0, 30) for _ in range(rng.randint(1, 6))]
            self.observe(rng, row, ticks, near_level)

    def test_near_observations_of_rows_with_much_water(self):
        rng = random.Random(92)
        for _ in range(60):
            self.observe(rng, random_slow_row(rng), [rng.randint(0, 30) for _ in range(4)], near_level)

    def test_far_observations(self):
        rng = random.Random(93)
        ends = {}
        for row in slow_rows() + [random_slow_row(rng) for _ in range(60)]:
            ticks = [FAR, FAR - rng.randint(1, 50), rng.randint(0, 10 ** 10), rng.randint(0, FAR), rng.randint(0, 99)]
            observer = self.observe(rng, row, rng.sample(ticks, 4), far_level)
            least, greatest = observer.possible_rain
            ends[least > 0, greatest < MOST] = True
        self.assertEqual(len(ends), 4)

    def test_every_amount_of_a_small_range(self):
        row = Row((0, 0), ("up", 6, 1, (0, 2)), ("low", 5, 0, (0, 3)))
        for tick in range(6):
            for name in row.names:
                levels = [near_level(row, 0, amount, name, tick) for amount in range(40)]
                for level in range(-1, 9):
                    observer = RainObserver(row, 0)
                    amounts = [amount for amount in range(40) if levels[amount] == level]
                    if not amounts:
                        with self.assertRaises(Contradiction):
                            observer.see(name, tick, level)
                    else:
                        # From 39 on, all is full.
                        greatest = amounts[-1] if amounts[-1] < 39 else MOST
                        self.assertEqual(observer.see(name, tick, level), greatest - amounts[0] + 1)
                        self.assertEqual(observer.possible_rain, (amounts[0], greatest))

    def test_the_amount_of_the_row_does_not_matter(self):
        for amount in (0, 3, MOST):
            row = example().with_rain(0, amount)
            observer = RainObserver(row, 0)
            self.assertEqual(observer.possible_rain, (0, MOST))
            self.assertEqual(observer.level_range("top", 0), (0, 4))
            self.assertEqual(observer.see("top", 0, 2), 1)
            self.assertEqual(observer.possible_rain, (2, 2))
            self.assertEqual(row.rain, (amount, 0))

    def test_ends_of_all_amounts(self):
        row = Row((0,), ("a", 10 ** 9, 100, (0,)))
        for amount in (0, 1, MOST - 1, MOST):
            observer = RainObserver(row, 0)
            self.assertEqual(observer.see("a", 0, 100 * amount), 1)
            self.assertEqual(observer.possible_rain, (amount, amount))
            observer = RainObserver(row, 0)
            self.assertEqual(observer.see("a", 9, min(10 ** 9, 1000 * amount)), 1)
        for level in (-1, -100, 1, 99, 101, 100 * MOST + 100, 100 * MOST - 1, 10 ** 30):
            with self.assertRaises(Contradiction):
                RainObserver(row, 0).see("a", 0, level)

    def test_the_last_rain_of_a_round(self):
        row = Row((0,) * 12, ("a", 10 ** 9, 1, (0,) * 12))
        observer = RainObserver(row, 11)
        self.assertEqual(observer.see("a", 10, 0), MOST + 1)
        self.assertEqual(observer.see("a", 11, 77), 1)
        self.assertEqual(observer.see("a", 23, 154), 1)
        self.assertEqual(observer.possible_rain, (77, 77))

    def test_repeated_observations_are_recorded(self):
        observer = RainObserver(example(), 0)
        self.assertEqual([observer.see("top", 0, 4), observer.see("top", 0, 4)], [MOST - 3, MOST - 3])
        self.assertEqual(observer.records, [("top", 0, 4), ("top", 0, 4)])
        self.assertIs(type(observer.records[0]), tuple)


class Contradicting(unittest.TestCase):
    def test_what_contradicts_is_not_recorded(self):
        observer = RainObserver(example(), 0)
        observer.see("top", 0, 2)
        for record in (("top", 0, 3), ("top", 0, 1), ("top", 0, 5), ("top", 0, -1), ("end", 0, 0), ("top", FAR, 4)):
            with self.assertRaises(Contradiction):
                observer.see(*record)
            self.assertEqual(observer.possible_rain, (2, 2))
            self.assertEqual(observer.records, [("top", 0, 2)])
        self.assertEqual(observer.see("end", 0, 1), 1)
        self.assertEqual(observer.records, [("top", 0, 2), ("end", 0, 1)])

    def test_errors_in_order(self):
        observer = RainObserver(example(), 0)
        observer.see("top", 0, 3)
        for tick in (0, -1, FAR + 1):
            for call in (lambda: observer.see("mid", tick, 99), lambda: observer.level_range("mid", tick)):
                with self.assertRaises(UnknownBarrel) as caught:
                    call()
                self.assertEqual(caught.exception.name, "mid")
        for tick in (-1, FAR + 1, True):
            for call in (lambda: observer.see("top", tick, 3), lambda: observer.see("top", tick, 99),
                         lambda: observer.level_range("top", tick)):
                with self.assertRaises(InvalidNumber):
                    call()
        self.assertEqual(observer.possible_rain, (3, 3))
        self.assertEqual(observer.records, [("top", 0, 3)])

    def test_wrong_indexes(self):
        for index in (-1, 2, 12, -2, FAR, True):
            with self.assertRaises(InvalidNumber):
                RainObserver(example(), index)
        self.assertEqual(RainObserver(example(), 1).possible_rain, (0, MOST))

    def test_the_last_tick_is_allowed(self):
        observer = RainObserver(example(), 1)
        self.assertEqual(observer.level_range("top", FAR), (4, 4))
        self.assertEqual(observer.see("top", FAR, 4), MOST + 1)
        self.assertEqual(observer.records, [("top", FAR, 4)])


class Speed(unittest.TestCase):
    def test_small_rows_take_milliseconds(self):
        rng = random.Random(94)
        rows = [small_row(rng) for _ in range(300)]
        begun = time.perf_counter()
        for row in rows:
            observer = RainObserver(row, 0)
            name = row.names[-1]
            observer.see(name, FAR, row(name, FAR))
            observer.level_range(name, FAR - 1)
        self.assertLess(time.perf_counter() - begun, 30)


if __name__ == "__main__":
    unittest.main()
