"""Points 13 and 4: live rows, step by step."""

import random
import unittest

from barrelrow.errors import InvalidNumber, RowError, UnknownBarrel
from barrelrow.live import LiveRow
from barrelrow.rows import Row, lost, totals
from tests.plainlive import PlainLive, Refused
from tests.samples import example, random_slow_row, small_row

MOST_RAIN = 10 ** 6
MOST_SCOOPED = 10 ** 9


def facts(live):
    """Return the values of all properties."""
    return live.now, live.levels, live.lost_water, live.missed_water, live.locked_names, live.history


def random_name(rng, row):
    return rng.choice(row.names + row.names + row.names + ("no",))


def random_operation(rng, row):
    """Return a random operation, which may be impossible."""
    way = rng.randrange(10)
    if way < 5:
        return ("pour", rng.choice((0, 0, 1, 2, 3, 5, 9, rng.randint(0, 40), MOST_RAIN, -1, MOST_RAIN + 1)))
    if way < 7:
        amount = rng.choice((1, 1, 2, 3, rng.randint(1, 40), MOST_SCOOPED, 0, -1, MOST_SCOOPED + 1))
        return ("scoop", random_name(rng, row), amount)
    return (rng.choice(("lock", "unlock")), random_name(rng, row))


def answer(call, *arguments):
    """Return what a call returns, or the name of the error that it raises, and what this error tells."""
    try:
        return call(*arguments)
    except RowError as error:
        return type(error).__name__, vars(error)
    except Refused as refused:
        return refused.args


def perform(live, operation):
    return getattr(live, operation[0])(*operation[1:])


class Living(unittest.TestCase):
    def test_random_operations(self):
        rng = random.Random(131)
        for _ in range(250):
            row = small_row(rng)
            live, plain = LiveRow(row), PlainLive(row)
            self.assertEqual(facts(live), plain.facts())
            for _ in range(rng.randint(5, 30)):
                operation = random_operation(rng, row)
                found = answer(perform, live, operation)
                expected = answer(plain.perform, operation)
                self.assertEqual(found, expected)
                self.assertIs(type(found), type(expected))
                self.assertEqual(facts(live), plain.facts())
                self.assertEqual(list(live.levels), list(row.names))

    def test_much_water(self):
        rng = random.Random(132)
        for _ in range(60):
            row = random_slow_row(rng)
            live, plain = LiveRow(row), PlainLive(row)
            for _ in range(20):
                operation = ("pour", rng.randint(0, MOST_RAIN))
                if rng.randrange(3) == 0:
                    operation = ("scoop", rng.choice(row.names), rng.randint(1, 10 ** rng.randint(1, 9)))
                self.assertEqual(perform(live, operation), plain.perform(operation))
                self.assertEqual(facts(live), plain.facts())

    def test_a_new_one(self):
        live = LiveRow(row=example())
        self.assertEqual(facts(live), (0, {"top": 0, "end": 0}, 0, 0, [], []))

    def test_one_tick_after_the_other(self):
        live = LiveRow(Row((0, 0), ("up", 5, 1, (1, 2)), ("low", 3, 0, (0, 9))))
        self.assertEqual(live.pour(9), 1)
        self.assertEqual(facts(live), (1, {"up": 4, "low": 3}, 1, 0, [], [("pour", 9)]))
        self.assertEqual(live.pour(amount=0), 0)
        self.assertEqual(facts(live), (2, {"up": 2, "low": 0}, 1, 6, [], [("pour", 9), ("pour", 0)]))
        self.assertEqual(live.pour(0), 0)
        self.assertEqual(live.levels, {"up": 1, "low": 0})
        self.assertEqual(live.pour(0), 0)
        self.assertEqual([live.now, live.levels, live.missed_water], [4, {"up": 0, "low": 0}, 16])

    def test_scoops(self):
        live = LiveRow(Row((0,), ("up", 5, 1, (0,)), ("low", 3, 0, (0,))))
        self.assertEqual(live.scoop("up", 1), 0)
        live.pour(4)
        self.assertEqual([live.scoop("up", 1), live.scoop(name="up", amount=2), live.scoop("up", 2)], [1, 2, 1])
        self.assertEqual([live.now, live.levels], [1, {"up": 0, "low": 0}])
        self.assertEqual([live.missed_water, live.lost_water], [0, 0])
        self.assertEqual(live.history, [("scoop", "up", 1), ("pour", 4), ("scoop", "up", 1), ("scoop", "up", 2),
                                        ("scoop", "up", 2)])

    def test_locks(self):
        live = LiveRow(Row((0, 0), ("up", 5, 1, (1, 2)), ("low", 3, 1, (2, 9))))
        self.assertEqual([live.lock("low"), live.lock("up"), live.lock("low")], [True, True, False])
        self.assertEqual(live.locked_names, ["up", "low"])
        self.assertEqual(live.pour(1), 0)
        self.assertEqual([live.levels, live.missed_water], [{"up": 1, "low": 1}, 3])
        self.assertEqual([live.unlock(name="up"), live.unlock("up")], [True, False])
        self.assertEqual(live.locked_names, ["low"])
        self.assertEqual(live.pour(0), 0)
        self.assertEqual([live.levels, live.missed_water], [{"up": 0, "low": 1}, 13])
        self.assertEqual(live.history, [("lock", "low"), ("lock", "up"), ("lock", "low"), ("pour", 1),
                                        ("unlock", "up"), ("unlock", "up"), ("pour", 0)])
        self.assertEqual(live.scoop("low", 9), 1)
        self.assertEqual(live.locked_names, ["low"])

    def test_a_locked_barrel_still_overflows(self):
        live = LiveRow(Row((0,), ("up", 5, 1, (5,)), ("low", 3, 0, (0,))))
        live.lock("up")
        self.assertEqual([live.pour(4), live.pour(3), live.pour(3)], [0, 0, 2])
        self.assertEqual([live.levels, live.missed_water], [{"up": 5, "low": 3}, 15])
        live.unlock("up")
        self.assertEqual([live.pour(0), live.levels, live.missed_water], [0, {"up": 0, "low": 3}, 15])

    def test_the_rain_of_the_row_does_not_matter(self):
        live = LiveRow(example().with_rain(0, MOST_RAIN))
        self.assertEqual([live.pour(3), live.levels], [1, {"top": 3, "end": 1}])


class Amounts(unittest.TestCase):
    def test_both_ends(self):
        live = LiveRow(Row((0,), ("a", 10 ** 9, 100, (0,))))
        self.assertEqual([live.pour(0), live.pour(MOST_RAIN), live.levels], [0, 0, {"a": 10 ** 8}])
        for _ in range(10):
            live.pour(MOST_RAIN)
        self.assertEqual([live.levels, live.lost_water], [{"a": 10 ** 9}, 10 ** 8])
        self.assertEqual([live.scoop("a", 1), live.scoop("a", MOST_SCOOPED)], [1, 10 ** 9 - 1])

    def test_beyond_the_ends(self):
        live = LiveRow(example())
        live.pour(3)
        before = facts(live)
        for amount in (-1, MOST_RAIN + 1, 10 ** 18, -10 ** 18, True, False):
            with self.assertRaises(InvalidNumber):
                live.pour(amount)
            self.assertEqual(facts(live), before)
        for amount in (0, -1, MOST_SCOOPED + 1, 10 ** 18, True, False):
            with self.assertRaises(InvalidNumber):
                live.scoop("top", amount)
            self.assertEqual(facts(live), before)

    def test_errors_in_order(self):
        live = LiveRow(example())
        for call in (lambda: live.scoop("mid", 1), lambda: live.scoop("mid", 0), lambda: live.lock("mid"),
                     lambda: live.unlock("mid")):
            with self.assertRaises(UnknownBarrel) as caught:
                call()
            self.assertEqual(caught.exception.name, "mid")
        self.assertEqual(facts(live), facts(LiveRow(example())))


class Returned(unittest.TestCase):
    def test_lists_and_dicts_may_be_modified(self):
        live = LiveRow(example())
        operations = [("pour", 3), ("lock", "end"), ("scoop", "top", 1)]
        results = live.apply_all(operations)
        before = facts(live)
        results.clear()
        operations.pop()
        operations[0] = ("lock", "top")
        for kept in (live.levels, live.locked_names, live.history):
            kept.clear()
        live.levels["top"] = 99
        live.locked_names.append("top")
        live.history.append(("undo",))
        self.assertEqual(facts(live), before)
        self.assertEqual([live.pour(0), live.levels], [0, {"top": 0, "end": 1}])
        self.assertEqual([type(live.levels), type(live.locked_names), type(live.history)], [dict, list, list])
        self.assertEqual([type(operation) for operation in live.history], [tuple] * 4)

    def test_what_was_returned_stays_as_it_was(self):
        live = LiveRow(example())
        live.pour(3)
        kept = facts(live)
        live.lock("top")
        live.pour(5)
        live.scoop("end", 1)
        self.assertEqual(kept, (1, {"top": 3, "end": 1}, 1, 0, [], [("pour", 3)]))

    def test_live_rows_share_nothing(self):
        row = example()
        one, other = LiveRow(row), LiveRow(row)
        one.pour(9)
        one.lock("top")
        self.assertEqual(facts(other), facts(LiveRow(row)))
        self.assertEqual(row, example())


class OwnRain(unittest.TestCase):
    """Points 4 and 13: a live row into which the row's own rain is poured is like the row."""

    def check(self, row, ticks):
        live = LiveRow(row)
        for tick in range(ticks):
            live.pour(row.rain[tick % len(row.rain)])
            levels = live.levels
            self.assertEqual(levels, {name: row(name, tick) for name in row.names})
            for name, capacity, _, _ in row.barrels:
                self.assertTrue(0 <= levels[name] <= capacity)
            flows = totals(row, tick + 1)
            self.assertEqual(live.missed_water, sum(flow[1] for flow in flows.values()))
            self.assertEqual(live.lost_water, lost(row, tick + 1))

    def test_small_rows(self):
        rng = random.Random(133)
        for _ in range(120):
            self.check(small_row(rng), 40)

    def test_rows_with_much_water(self):
        rng = random.Random(134)
        for _ in range(40):
            self.check(random_slow_row(rng), 30)


if __name__ == "__main__":
    unittest.main()
