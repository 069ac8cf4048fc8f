"""Point 11: how much rain falls in weather of all kinds, and in sums."""

import random
import unittest

from barrelrow.errors import InvalidNumber, InvalidWeather
from barrelrow.weathers import SpellWeather, SteadyWeather, StormWeather, Weather
from tests.samples import FAR

KINDS = {"dry": Weather, "steady": SteadyWeather, "spells": SpellWeather, "storms": StormWeather}
# The parameters of each kind, each with the ends of its range.
RANGES = {
    SteadyWeather: [("amount", 0, 1000000)],
    SpellWeather: [("amount", 0, 1000000), ("wet", 1, 1000), ("dry", 1, 1000)],
    StormWeather: [("amount", 0, 1000000), ("first", 0, 1000), ("every", 1, 1000)],
}


def plain_falls(kind, numbers, ticks):
    """Count out the rain in the first ticks."""
    if kind == "dry":
        return [0] * ticks
    if kind == "steady":
        return [numbers[0]] * ticks
    falls = []
    if kind == "spells":
        amount, wet, dry = numbers
        while len(falls) < ticks:
            falls += [amount] * wet + [0] * dry
        return falls[:ticks]
    amount, first, every = numbers
    falls = [0] * ticks
    tick = first
    while tick < ticks:
        falls[tick] = amount
        tick += every
    return falls


def random_numbers(rng, kind):
    numbers = []
    for _, least, greatest in RANGES.get(KINDS[kind], []):
        numbers.append(rng.choice((least, greatest, rng.randint(least, greatest), rng.randint(least, 9))))
    return tuple(numbers)


def made(kind, numbers):
    return KINDS[kind](*numbers)


def random_sum(rng, parts):
    """Return a random sum of random weather, and a list of (kind, numbers) of its parts."""
    if parts == 1:
        kind = rng.choice(sorted(KINDS))
        numbers = random_numbers(rng, kind)
        return made(kind, numbers), [(kind, numbers)]
    left = rng.randint(1, parts - 1)
    one, parts_of_one = random_sum(rng, left)
    other, parts_of_other = random_sum(rng, parts - left)
    return one + other, parts_of_one + parts_of_other


class Falling(unittest.TestCase):
    def test_near_rain(self):
        rng = random.Random(111)
        for kind in KINDS:
            for _ in range(40):
                numbers = random_numbers(rng, kind)
                weather = made(kind, numbers)
                found = [weather.fall_in(tick) for tick in range(3100)]
                self.assertEqual(found, plain_falls(kind, numbers, 3100), (kind, numbers))

    def test_far_rain_of_spells(self):
        rng = random.Random(112)
        for _ in range(200):
            amount, wet, dry = numbers = random_numbers(rng, "spells")
            weather = SpellWeather(*numbers)
            # A whole number of spells before the last tick that may be asked for.
            spell = wet + dry
            begin = (FAR // spell - rng.randint(2, 10 ** 6)) * spell
            falls = plain_falls("spells", numbers, 2 * spell)
            for at in [0, wet - 1, wet, spell - 1, spell] + [rng.randrange(2 * spell) for _ in range(20)]:
                self.assertEqual(weather.fall_in(begin + at), falls[at])
            last = FAR // spell * spell
            self.assertEqual(weather.fall_in(FAR), falls[FAR - last])

    def test_far_rain_of_storms(self):
        rng = random.Random(113)
        for _ in range(200):
            amount, first, every = numbers = random_numbers(rng, "storms")
            weather = StormWeather(*numbers)
            storm = first + (FAR - first) // every * every
            for tick in range(storm - 20, min(FAR, storm + 20) + 1):
                self.assertEqual(weather.fall_in(tick), amount if (tick - storm) % every == 0 else 0)

    def test_far_rain_of_others(self):
        for tick in (0, 1, 10 ** 9, FAR - 1, FAR):
            self.assertEqual(Weather().fall_in(tick), 0)
            self.assertEqual(SteadyWeather(7).fall_in(tick), 7)
            self.assertEqual(SteadyWeather(0).fall_in(tick), 0)

    def test_no_storm_before_the_first_one(self):
        weather = StormWeather(5, 7, 3)
        self.assertEqual([tick for tick in range(17) if weather.fall_in(tick)], [7, 10, 13, 16])
        self.assertEqual([weather.fall_in(tick) for tick in (1, 4, 7)], [0, 0, 5])

    def test_by_keywords(self):
        self.assertEqual(SteadyWeather(amount=4).fall_in(tick=1), 4)
        weather = SpellWeather(dry=2, wet=1, amount=4)
        self.assertEqual([weather.fall_in(tick) for tick in range(5)], [4, 0, 0, 4, 0])
        weather = StormWeather(every=2, first=1, amount=4)
        self.assertEqual([weather.fall_in(tick) for tick in range(5)], [0, 4, 0, 4, 0])


class Sums(unittest.TestCase):
    def test_near_and_far_rain(self):
        rng = random.Random(114)
        for _ in range(150):
            weather, parts = random_sum(rng, rng.randint(2, 7))
            lists = [plain_falls(kind, numbers, 1500) for kind, numbers in parts]
            self.assertEqual([weather.fall_in(tick) for tick in range(1500)], [sum(falls) for falls in zip(*lists)])
            for tick in [FAR, FAR - 1] + [rng.randint(0, FAR) for _ in range(20)]:
                falls = [made(kind, numbers).fall_in(tick) for kind, numbers in parts]
                self.assertEqual(weather.fall_in(tick), sum(falls))

    def test_the_same_weather_twice(self):
        storm = StormWeather(3, 1, 2)
        both = storm + storm
        self.assertEqual([both.fall_in(tick) for tick in range(4)], [0, 6, 0, 6])
        four = both + both
        self.assertEqual([four.fall_in(tick) for tick in range(4)], [0, 12, 0, 12])
        more = four + storm
        self.assertEqual(more.fall_in(FAR - 1), 15)
        self.assertEqual([storm.fall_in(1), both.fall_in(1), four.fall_in(1)], [3, 6, 12])

    def test_doubled_sixty_times(self):
        weather = SpellWeather(1, 1, 1)
        for _ in range(60):
            weather = weather + weather
        self.assertEqual([weather.fall_in(0), weather.fall_in(1)], [2 ** 60, 0])

    def test_sums_of_very_many(self):
        left = right = Weather()
        for number in range(1500):
            left = left + SteadyWeather(number)
            right = StormWeather(1, number % 1000, 1000) + right
        self.assertEqual(left.fall_in(FAR), 1500 * 1499 // 2)
        self.assertEqual([right.fall_in(tick) for tick in (0, 499, 500, 999)], [2, 2, 1, 1])
        self.assertEqual((left + right).fall_in(FAR), 1500 * 1499 // 2 + 2)

    def test_a_sum_leaves_its_parts_as_they_were(self):
        one = SteadyWeather(2) + SteadyWeather(3)
        other = SteadyWeather(4) + StormWeather(1, 0, 1)
        both = one + other
        more = both + one
        self.assertEqual([weather.fall_in(5) for weather in (one, other, both, more)], [5, 5, 10, 15])
        self.assertEqual([weather.KIND for weather in (one, other, both, more)], ["sum"] * 4)


class Kinds(unittest.TestCase):
    def test_kinds(self):
        for kind, cls in KINDS.items():
            self.assertEqual(cls.KIND, kind)
            weather = made(kind, [1] * len(RANGES.get(cls, [])))
            self.assertEqual(weather.KIND, kind)
            self.assertIsInstance(weather, Weather)
            for other in (Weather(), SteadyWeather(1), weather + weather):
                self.assertEqual([(weather + other).KIND, (other + weather).KIND], ["sum", "sum"])
                self.assertIsInstance(weather + other, Weather)

    def test_signs_and_methods_of_each_class(self):
        for cls in KINDS.values():
            for name in ("KIND", "fall_in", "__add__"):
                self.assertIn(name, vars(cls))


class Faults(unittest.TestCase):
    def part(self, cls, numbers):
        with self.assertRaises(InvalidWeather) as caught:
            cls(*numbers)
        return caught.exception.part

    def test_each_end_of_each_range(self):
        for cls, ranges in RANGES.items():
            for at, (name, least, greatest) in enumerate(ranges):
                numbers = [1] * len(ranges)
                for number in (least, greatest):
                    numbers[at] = number
                    self.assertIn(cls(*numbers).fall_in(0), numbers + [0])
                for number in (least - 1, greatest + 1, -FAR, FAR, True, False):
                    numbers[at] = number
                    self.assertEqual(self.part(cls, numbers), name)

    def test_the_first_of_several(self):
        rng = random.Random(115)
        for cls, ranges in RANGES.items():
            for _ in range(200):
                wrong = [rng.randrange(2) for _ in ranges]
                numbers = []
                for bad, (_, least, greatest) in zip(wrong, ranges):
                    good = (least, greatest, rng.randint(least, greatest))
                    numbers.append(rng.choice((least - 1, greatest + 1, True) if bad else good))
                if 1 in wrong:
                    self.assertEqual(self.part(cls, numbers), ranges[wrong.index(1)][0])
                else:
                    cls(*numbers)

    def test_ticks_out_of_range(self):
        one = SteadyWeather(1)
        spells = SpellWeather(1, 2, 3)
        for weather in (Weather(), one, spells, StormWeather(1, 0, 1), one + spells, Weather() + Weather(),
                        one + (spells + one)):
            for tick in (-1, -FAR, FAR + 1, 10 ** 30, True, False):
                with self.assertRaises(InvalidNumber):
                    weather.fall_in(tick)
            self.assertEqual(weather.fall_in(FAR), weather.fall_in(FAR))


if __name__ == "__main__":
    unittest.main()
