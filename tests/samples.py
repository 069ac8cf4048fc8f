"""Rows for the tests: random ones that settle soon, and ones that take very long."""

from barrelrow.rows import Row

NAMES = ("a", "top", "mid", "end", "zz", "barrel", "abcdefgh", "z", "xyz", "low")
FAR = 10 ** 18


def example():
    """Return the row of the examples of the document."""
    return Row((3, 0), ("top", 4, 1, (0, 2)), ("end", 2, 1, (1, 1)))


def small_rain(rng, ticks=None):
    ticks = ticks or rng.choice((1, 1, 2, 2, 3, 4, 5, 12))
    return tuple(rng.choice((0, 0, 1, 2, 3, rng.randint(0, 9))) for _ in range(ticks))


def small_barrel(rng, name, rain):
    """Return a barrel that the rain fills, leaves half full or leaves nearly empty."""
    roof = rng.choice((0, 1, 1, 1, 2, 3))
    wishes = rng.choice((0, 1, 2, 3, 6))
    draws = tuple(rng.choice((0, rng.randint(0, wishes))) for _ in rain)
    return (name, rng.choice((0, 1, rng.randint(0, 9), rng.randint(0, 40))), roof, draws)


def small_barrels(rng, rain, least=1, most=5):
    names = rng.sample(NAMES, rng.randint(least, most))
    return [small_barrel(rng, name, rain) for name in names]


def small_row(rng, least=1, most=5):
    rain = small_rain(rng)
    return Row(rain, *small_barrels(rng, rain, least, most))


def slow_rows():
    """Return rows that gain or miss one unit per round in barrels of 10 ** 9 or so."""
    big = 10 ** 9
    late = (0, 0, 0, 0, 0, 0, 0, 0, 0, 0, 0, 1)
    return [
        # Each barrel begins to fill when the one before it is full.
        Row((1,), *[(name, big, int(name == "a"), (0,)) for name in "abcde"]),
        # Each one gains one unit per round from the beginning on.
        Row((2, 0), *[(name, big, 1, (0, 1)) for name in "abcde"]),
        # Each one gains one, but with other tops within the round, and of other capacities.
        Row((3, 0, 5, 1), *[(name, big - size, 1, (0, 4, 0, 4)) for size, name in enumerate("abcde")]),
        # The second one misses until the first one is full; the third gains at once.
        Row((1, 0, 0), ("a", big, 1, (0, 0, 0)), ("b", big - 7, 0, (0, 1, 0)), ("c", big, 5, (2, 0, 2))),
        # One unit too little for the last one in each round.
        Row((7,) + late[1:], ("up", big, 0, late), ("down", big, 1, (0,) * 11 + (9,))),
        # Twelve ticks, much water, and one unit of gain.
        Row((10 ** 6,) * 12, *[(name, big, 100, (10 ** 8,) * 11 + (10 ** 8 - 1,)) for name in "vwxyz"]),
        # The lower ones gain faster with each overflow from above.
        Row((1, 1), *[(name, big // size, 1, (0, 1)) for size, name in enumerate("abcde", 1)]),
    ]


def random_slow_row(rng):
    """Return a random row in which much water comes and nearly as much is drawn."""
    ticks = rng.randint(1, 12)
    rain = tuple(rng.choice((0, 1, rng.randint(0, 10 ** rng.randint(1, 6)))) for _ in range(ticks))
    barrels = []
    for name in rng.sample(NAMES, rng.randint(1, 5)):
        roof = rng.choice((0, 1, 1, rng.randint(0, 100)))
        left = max(0, sum(rain) * roof - rng.choice((0, 1, 1, 1, 2, -1, rng.randint(0, 60))))
        draws = [0] * ticks
        for at in [rng.randrange(ticks) for _ in range(rng.randint(1, 4))]:
            part = rng.randint(0, left)
            draws[at] += part
            left -= part
        draws[rng.randrange(ticks)] += left
        draws = tuple(min(wish, 10 ** 9) for wish in draws)
        capacity = rng.choice((10 ** 9, rng.randint(0, 10 ** 9), rng.randint(0, 1000)))
        barrels.append((name, capacity, roof, draws))
    return Row(rain, *barrels)
