"""How much rain falls in each tick, and what it does to a row."""

from barrelrow.errors import InvalidWeather
from barrelrow.rows import LAST_TICK, MAX_FALL, check_number, is_number
from barrelrow.water import for_ticks, pass_ticks

MAX_SPAN = 1000
MOST_TICKS = 2000


class Weather:
    """Weather that is always dry. All other weather is a kind of it."""

    KIND = "dry"

    def fall_in(self, tick):
        """Return how much rain falls in a tick."""
        check_number(tick, 0, LAST_TICK)
        return 0

    def __add__(self, other):
        return WeatherSum(self, other)


class SteadyWeather(Weather):
    """Weather in which it always rains equally."""

    KIND = "steady"

    def __init__(self, amount):
        check_part("amount", amount, 0, MAX_FALL)
        self._amount = amount

    def fall_in(self, tick):
        """Return how much rain falls in a tick."""
        check_number(tick, 0, LAST_TICK)
        return self._amount

    def __add__(self, other):
        return WeatherSum(self, other)


class SpellWeather(Weather):
    """Weather in which it rains equally in some ticks, then not in some, and so on."""

    KIND = "spells"

    def __init__(self, amount, wet, dry):
        check_part("amount", amount, 0, MAX_FALL)
        check_part("wet", wet, 1, MAX_SPAN)
        check_part("dry", dry, 1, MAX_SPAN)
        self._amount = amount
        self._wet = wet
        self._dry = dry

    def fall_in(self, tick):
        """Return how much rain falls in a tick."""
        check_number(tick, 0, LAST_TICK)
        return self._amount if tick % (self._wet + self._dry) < self._wet else 0

    def __add__(self, other):
        return WeatherSum(self, other)


class StormWeather(Weather):
    """Weather in which it rains in a first tick and regularly after it."""

    KIND = "storms"

    def __init__(self, amount, first, every):
        check_part("amount", amount, 0, MAX_FALL)
        check_part("first", first, 0, MAX_SPAN)
        check_part("every", every, 1, MAX_SPAN)
        self._amount = amount
        self._first = first
        self._every = every

    def fall_in(self, tick):
        """Return how much rain falls in a tick."""
        check_number(tick, 0, LAST_TICK)
        since = tick - self._first
        return self._amount if since >= 0 and since % self._every == 0 else 0

    def __add__(self, other):
        return WeatherSum(self, other)


class WeatherSum(Weather):
    """Weather in which the rain of two others falls."""

    KIND = "sum"

    def __init__(self, one, other):
        self._counts = counted_parts(one, other)

    def fall_in(self, tick):
        """Return how much rain falls in a tick."""
        # The tick is checked by the parts, of which there is at least one.
        return sum([count * part.fall_in(tick) for part, count in self._counts.items()])

    def __add__(self, other):
        return WeatherSum(self, other)


def counted_parts(one, other):
    """Return a dict from each weather in two others that is no sum to how often it is in them.

    So no sum contains a sum, however many are added up.
    """
    counts = {}
    for counted in (parts_of(one), parts_of(other)):
        for part, count in counted.items():
            counts[part] = counts.get(part, 0) + count
    return counts


def parts_of(weather):
    """Return a dict from each weather in a weather that is no sum to how often it is in it."""
    if isinstance(weather, WeatherSum):
        return weather._counts
    return {weather: 1}


def check_part(part, number, least, greatest):
    """Raise InvalidWeather with this part unless its number is in this range."""
    if not is_number(number, least, greatest):
        raise InvalidWeather(part=part)


def pass_weather(row, weather, ticks):
    """Let the first so many ticks pass with this weather; return the passage of each barrel."""
    check_number(ticks, 0, MOST_TICKS)
    rain = [weather.fall_in(tick) for tick in range(ticks)]
    return pass_ticks(rain, for_ticks(row.barrels, ticks), [0] * len(row))


def played(row, weather, ticks):
    """Yield the levels of all barrels after each of the first so many ticks."""
    passages = pass_weather(row, weather, ticks)
    for tick in range(ticks):
        yield tuple([passage.after[tick] for passage in passages])


def outcome(row, weather, ticks):
    """Return what is drawn, missed and lost in the first so many ticks."""
    passages = pass_weather(row, weather, ticks)
    drawn = sum([sum(passage.drawn) for passage in passages])
    missed = sum([sum(passage.missed) for passage in passages])
    return drawn, missed, sum(passages[-1].over)


def driest_tick(row, weather, ticks):
    """Return the first of these ticks after which least water is there, or None without ticks."""
    amounts = [sum(levels) for levels in played(row, weather, ticks)]
    if len(amounts) == 0:
        return None
    return amounts.index(min(amounts))
