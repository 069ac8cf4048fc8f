"""The examples of the interface, as they stand in the document."""

import unittest

from barrelrow import choosing, codes, errors, hidden, live, notes, rows, weathers
from barrelrow.choosing import best_place, change_without, first_difference, held_back, least_capacity
from barrelrow.codes import decode_row, encode_row
from barrelrow.errors import Contradiction, DaybookError, DecodeError, InvalidOperation, InvalidRow, InvalidText
from barrelrow.errors import InvalidWeather, UnknownBarrel
from barrelrow.hidden import RainObserver
from barrelrow.live import LiveRow, Trial
from barrelrow.notes import Daybook, chart, format_row, parse_row
from barrelrow.rows import Row, first_missed, long_run, lost, settled_round, totals
from barrelrow.weathers import SpellWeather, SteadyWeather, StormWeather, Weather, driest_tick, outcome, played


class Examples(unittest.TestCase):
    def setUp(self):
        self.row = Row((3, 0), ("top", 4, 1, (0, 2)), ("end", 2, 1, (1, 1)))

    def test_levels(self):
        row = self.row
        self.assertEqual([row("top", 0), row("end", 0), row("end", 1), row("top", 10 ** 18)], [3, 1, 0, 4])

    def test_signs(self):
        row = self.row
        self.assertEqual([len(row), row["top"], (row - "top").names, "mid" in row],
                         [2, (4, 1, (0, 2)), ("end",), False])

    def test_an_invalid_row(self):
        with self.assertRaises(InvalidRow) as caught:
            Row((3, 0), ("top", 4, 1, (0,)))
        self.assertEqual((caught.exception.part, caught.exception.index), ("barrels", 0))

    def test_changed_rows(self):
        row = self.row
        self.assertEqual(
            [row.with_capacity("top", 9)["top"], row.with_rain(1, 7).rain, Row.equal((1,), 5, "a", "b").barrels],
            [(9, 1, (0, 2)), (3, 7), (("a", 5, 1, (0,)), ("b", 5, 1, (0,)))])

    def test_sums(self):
        row = self.row
        self.assertEqual(
            [totals(row, 4), lost(row, 10 ** 18), settled_round(row), long_run(row)],
            [{"top": (4, 0, 0), "end": (4, 0, 2)}, 999999999999999998, 2, {"top": (2, 0, 1), "end": (2, 0, 2)}])

    def test_first_missed(self):
        row = self.row
        self.assertEqual(
            [first_missed(row, "end", 0), first_missed(Row((3, 0), ("top", 4, 1, (0, 5))), "top", 0)], [None, 1])

    def test_held_back(self):
        row = self.row
        self.assertEqual([held_back(row, "top"), held_back(row, "end"), change_without(row, "top")], [-1, -1, {}])

    def test_choices(self):
        row = self.row
        self.assertEqual([least_capacity(row, "end", 0), best_place(row, ("new", 5, 0, (1, 0)))], [2, (1, 0)])

    def test_first_difference(self):
        row = self.row
        self.assertEqual(
            [first_difference(row, row - "top", "end"), first_difference(row, row.with_rain(1, 2), "top")], [None, 1])

    def test_observer(self):
        observer = RainObserver(self.row, 0)
        self.assertEqual(
            [observer.see("top", 0, 4), observer.possible_rain, observer.level_range("end", 0),
             observer.see("top", 2, 4)],
            [999997, (4, 1000000), (1, 1), 999997])

    def test_a_contradiction(self):
        with self.assertRaises(Contradiction):
            RainObserver(self.row, 0).see("top", 0, 5)


class ExamplesOfPartTwo(unittest.TestCase):
    def setUp(self):
        self.row = Row((3, 0), ("top", 4, 1, (0, 2)), ("end", 2, 1, (1, 1)))

    def test_weather(self):
        both = StormWeather(7, 2, 4) + SteadyWeather(1)
        self.assertEqual([both.fall_in(5), both.fall_in(6), both.KIND], [1, 8, "sum"])
        with self.assertRaises(InvalidWeather) as caught:
            SteadyWeather(-1)
        self.assertEqual(caught.exception.part, "amount")
        weather = SpellWeather(5, 2, 3)
        self.assertEqual([weather.fall_in(1), weather.fall_in(2), weather.fall_in(10 ** 18)], [5, 0, 5])

    def test_rows_in_weather(self):
        row, weather = self.row, SteadyWeather(3)
        self.assertEqual([list(played(row, weather, 2)), outcome(row, weather, 2), driest_tick(row, weather, 2)],
                         [[(3, 1), (2, 1)], (4, 0, 5), 1])

    def test_a_live_row(self):
        live_row = LiveRow(self.row)
        self.assertEqual(
            [live_row.pour(3), live_row.scoop("top", 9), live_row.lock("end"), live_row.pour(0), live_row.missed_water,
             live_row.levels],
            [1, 3, True, 0, 3, {"top": 0, "end": 1}])
        with self.assertRaises(UnknownBarrel) as caught:
            LiveRow(self.row).scoop("mid", 1)
        self.assertEqual(caught.exception.name, "mid")

    def test_operations(self):
        live_row = LiveRow.replay(self.row, ("pour", 3))
        self.assertEqual([live_row.undo(), live_row.undo(), live_row.redo(), live_row.now], [True, False, True, 1])
        self.assertEqual(LiveRow(self.row).apply_all([("pour", 3), ("lock", "top")]), [1, True])
        with self.assertRaises(InvalidOperation) as caught:
            LiveRow(self.row).apply_all([("pour", 3), ("lock",)])
        self.assertEqual(caught.exception.index, 1)
        self.assertEqual(LiveRow.replay(self.row, ("pour", 3)).levels, {"top": 3, "end": 1})

    def test_texts(self):
        self.assertEqual(format_row(self.row), "rain 3 0\ntop 4 1 0 2\nend 2 1 1 1")
        self.assertEqual(parse_row("rain 3\na 5 1 0").barrels, (("a", 5, 1, (0,)),))
        with self.assertRaises(InvalidText) as caught:
            parse_row("rain 3\na 5 1")
        self.assertEqual(caught.exception.line, 1)

    def test_a_chart(self):
        self.assertEqual(
            chart(self.row, 0),
            "top     [###############.....]             3\nend     [##########..........]             1")

    def test_daybooks(self):
        daybook = Daybook(self.row, "rain 3\nlevel top 3\nrain ?\nlevel top 2")
        self.assertEqual([daybook.line_count, daybook.tick_count], [4, 2])
        self.assertEqual([daybook.unknown_range(), daybook.levels_after(1)], [(1, 1000000), {"top": 2, "end": 1}])
        with self.assertRaises(DaybookError) as caught:
            Daybook(self.row, "rain 3\nlevel top 4")
        self.assertEqual(caught.exception.line, 1)

    def test_codes(self):
        self.assertEqual(encode_row(Row((3,), ("a", 5, 1, (0,)))), [82, 1, 3, 1, 1, 1, 5, 1, 0, 246])
        self.assertEqual(decode_row([82, 1, 3, 1, 1, 1, 5, 1, 0, 246]).barrels, (("a", 5, 1, (0,)),))
        with self.assertRaises(DecodeError) as caught:
            decode_row([82, 0])
        self.assertEqual(caught.exception.offset, 1)


class Places(unittest.TestCase):
    """Everything is defined in the file under which the interface lists it."""

    def test_files(self):
        listed = {
            errors: ("RowError", "InvalidRow", "UnknownBarrel", "OtherRain", "InvalidNumber", "Contradiction",
                     "InvalidWeather", "InvalidOperation", "InvalidText", "DaybookError", "DecodeError"),
            rows: ("Row", "totals", "lost", "settled_round", "long_run", "first_missed"),
            choosing: ("held_back", "change_without", "least_capacity", "best_place", "first_difference"),
            hidden: ("RainObserver",),
            weathers: ("Weather", "SteadyWeather", "SpellWeather", "StormWeather", "played", "outcome", "driest_tick"),
            live: ("LiveRow", "Trial"),
            notes: ("format_row", "parse_row", "chart", "Daybook"),
            codes: ("encode_row", "decode_row"),
        }
        for module, names in listed.items():
            for name in names:
                self.assertEqual(getattr(module, name).__module__, module.__name__)

    def test_methods(self):
        listed = {
            Row: ("equal", "with_capacity", "with_rain", "rain", "barrels", "names", "__len__", "__contains__",
                  "__getitem__", "__sub__", "__add__", "__eq__", "__call__", "MAX_BARRELS", "MAX_TICKS"),
            RainObserver: ("see", "possible_rain", "records", "level_range"),
            Weather: ("fall_in", "KIND", "__add__"),
            SteadyWeather: ("fall_in", "KIND", "__add__"),
            SpellWeather: ("fall_in", "KIND", "__add__"),
            StormWeather: ("fall_in", "KIND", "__add__"),
            LiveRow: ("now", "levels", "lost_water", "missed_water", "locked_names", "history", "pour", "scoop", "lock",
                      "unlock", "undo", "redo", "apply_all", "replay"),
            Trial: ("__enter__", "__exit__"),
            Daybook: ("line_count", "tick_count", "unknown_range", "levels_after"),
        }
        for kind, names in listed.items():
            for name in names:
                self.assertIn(name, vars(kind))
        properties = (
            (Row, ("rain", "barrels", "names")),
            (RainObserver, ("possible_rain", "records")),
            (LiveRow, ("now", "levels", "lost_water", "missed_water", "locked_names", "history")),
            (Daybook, ("line_count", "tick_count")),
        )
        for kind, names in properties:
            for name in names:
                self.assertIsInstance(vars(kind)[name], property)

    def test_names_of_parameters(self):
        row = Row((3, 0), ("top", 4, 1, (0, 2)))
        self.assertEqual(row.with_capacity(name="top", capacity=9)["top"], (9, 1, (0, 2)))
        self.assertEqual(row.with_rain(index=1, amount=7).rain, (3, 7))
        self.assertEqual(totals(row=row, ticks=0), {"top": (0, 0, 0)})
        self.assertEqual(lost(row=row, ticks=0), 0)
        self.assertEqual(settled_round(row=row), 2)
        self.assertEqual(long_run(row=row), {"top": (2, 0, 1)})
        self.assertIsNone(first_missed(row=row, name="top", tick=0))
        self.assertEqual(held_back(row=row, name="top"), -1)
        self.assertEqual(change_without(row=row, name="top"), {})
        self.assertEqual(least_capacity(row=row, name="top", goal=2), 0)
        self.assertEqual(best_place(row=row, barrel=("new", 5, 0, (1, 0))), (1, 0))
        self.assertIsNone(first_difference(one=row, other=row, name="top"))
        observer = RainObserver(row=row, index=0)
        self.assertEqual(observer.see(name="top", tick=0, level=3), 1)
        self.assertEqual(observer.level_range(name="top", tick=0), (3, 3))


if __name__ == "__main__":
    unittest.main()
