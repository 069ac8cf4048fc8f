"""Point 12: what weather does to a row."""

import random
import types
import unittest

from barrelrow.errors import InvalidNumber
from barrelrow.rows import Row
from barrelrow.weathers import SpellWeather, SteadyWeather, StormWeather, Weather, driest_tick, outcome, played
from tests import simulation
from tests.samples import FAR, example, small_row


def random_weather(rng):
    """Return weather with so much rain that barrels are full, or half full, or empty."""
    amount = rng.choice((0, 1, 2, 3, rng.randint(0, 12)))
    kinds = [
        lambda: Weather(),
        lambda: SteadyWeather(amount),
        lambda: SpellWeather(amount, rng.randint(1, 5), rng.randint(1, 9)),
        lambda: StormWeather(5 * amount, rng.randint(0, 9), rng.randint(1, 9)),
        lambda: random_weather(rng) + random_weather(rng),
    ]
    return rng.choice(kinds)()


class Playing(unittest.TestCase):
    def check(self, row, weather, ticks):
        falls = [weather.fall_in(tick) for tick in range(ticks)]
        levels, flows = simulation.play(falls, row.barrels, len(row.rain))
        expected = [tuple(after[name] for name in row.names) for after in levels]
        self.assertEqual(list(played(row, weather, ticks)), expected)
        sums = list(simulation.add_flows(row.barrels, flows).values())
        found = outcome(row, weather, ticks)
        self.assertEqual(found, (sum(flow[0] for flow in sums), sum(flow[1] for flow in sums), sums[-1][2]))
        amounts = [sum(after) for after in expected]
        driest = None
        for tick in range(ticks):
            if driest is None or amounts[tick] < amounts[driest]:
                driest = tick
        self.assertEqual(driest_tick(row, weather, ticks), driest)
        return amounts, driest

    def test_random_rows(self):
        rng = random.Random(121)
        tied = later = 0
        for _ in range(1000):
            amounts, driest = self.check(small_row(rng, 1, 4), random_weather(rng), rng.randint(0, 45))
            if driest is not None:
                tied += amounts.count(amounts[driest]) > 1
                later += driest > 0
        self.assertGreater(tied, 50)
        self.assertGreater(later, 50)

    def test_all_allowed_ticks(self):
        rng = random.Random(122)
        for _ in range(5):
            self.check(small_row(rng), random_weather(rng), 2000)

    def test_much_rain(self):
        weather = SteadyWeather(10 ** 6) + StormWeather(10 ** 6, 0, 3)
        self.check(Row.equal((1, 2, 3), 10 ** 9, "a", "b"), weather + weather, 40)
        self.check(Row((0, 0), ("a", 10 ** 9, 100, (0, 10 ** 9)), ("b", 7, 100, (1, 0))), weather, 40)

    def test_without_ticks(self):
        row = example()
        for weather in (Weather(), SteadyWeather(3)):
            self.assertEqual(list(played(row, weather, 0)), [])
            self.assertEqual(outcome(row, weather, 0), (0, 0, 0))
            self.assertIsNone(driest_tick(row, weather, 0))

    def test_the_first_of_the_driest_ticks(self):
        row = Row((9, 9), ("a", 10, 1, (0, 4)))
        weather = SpellWeather(4, 1, 1)
        self.assertEqual(list(played(row, weather, 4)), [(4,), (0,), (4,), (0,)])
        self.assertEqual(driest_tick(row, weather, 1), 0)
        self.assertEqual([driest_tick(row, weather, ticks) for ticks in (2, 3, 4, 9, 2000)], [1] * 5)
        self.assertEqual(driest_tick(row, Weather(), 2000), 0)

    def test_the_wishes_go_on_as_in_the_row(self):
        row = Row((0, 0, 0), ("a", 100, 1, (0, 0, 5)))
        found = list(played(row, SpellWeather(6, 1, 1), 6))
        self.assertEqual(found, [(6,), (6,), (7,), (7,), (13,), (8,)])

    def test_the_rain_of_the_row_does_not_matter(self):
        rng = random.Random(123)
        for _ in range(50):
            row = small_row(rng)
            other = row.with_rain(rng.randrange(len(row.rain)), rng.randint(0, 10 ** 6))
            weather = random_weather(rng)
            self.assertEqual(list(played(row, weather, 20)), list(played(other, weather, 20)))
            self.assertEqual(outcome(row, weather, 20), outcome(other, weather, 20))

    def test_the_rain_of_the_row_as_weather(self):
        row = Row((4, 4, 0), ("a", 9, 1, (1, 2, 3)), ("b", 5, 2, (0, 9, 1)))
        levels = [(row("a", tick), row("b", tick)) for tick in range(60)]
        self.assertEqual(list(played(row, SpellWeather(4, 2, 1), 60)), levels)

    def test_kinds_of_values(self):
        row = example()
        found = played(row, SteadyWeather(3), 3)
        self.assertIsInstance(found, types.GeneratorType)
        self.assertEqual([type(levels) for levels in found], [tuple] * 3)
        self.assertIs(type(outcome(row, SteadyWeather(3), 3)), tuple)
        self.assertEqual(list(played(row=row, weather=SteadyWeather(3), ticks=1)), [(3, 1)])
        self.assertEqual(outcome(row=row, weather=SteadyWeather(3), ticks=1), (1, 0, 1))
        self.assertEqual(driest_tick(row=row, weather=SteadyWeather(3), ticks=1), 0)

    def test_ticks_out_of_range(self):
        for ticks in (-1, 2001, FAR, -FAR, True, False):
            for call in (lambda: list(played(example(), Weather(), ticks)),
                         lambda: outcome(example(), Weather(), ticks),
                         lambda: driest_tick(example(), Weather(), ticks)):
                with self.assertRaises(InvalidNumber):
                    call()


if __name__ == "__main__":
    unittest.main()
