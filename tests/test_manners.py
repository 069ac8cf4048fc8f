"""Point 1: what holds of all functions: nothing is modified or kept, and answers stay the same."""

import copy
import random
import unittest

from barrelrow.choosing import best_place, change_without, first_difference, held_back, least_capacity
from barrelrow.codes import decode_row, encode_row
from barrelrow.errors import Contradiction, InvalidNumber, RowError
from barrelrow.hidden import RainObserver
from barrelrow.live import LiveRow
from barrelrow.notes import Daybook, chart, format_row, parse_row
from barrelrow.rows import Row, first_missed, long_run, lost, settled_round, totals
from barrelrow.weathers import SpellWeather, SteadyWeather, StormWeather, driest_tick, outcome, played
from tests.samples import FAR, example, slow_rows, small_row


def questions(row, other):
    """Return calls that ask a row, some of which raise an error."""
    name = row.names[-1]
    ticks = len(row.rain)
    return [
        lambda: row(name, 5), lambda: row(name, FAR), lambda: row(name, -1), lambda: row("no", 1),
        lambda: totals(row, 17), lambda: totals(row, FAR), lambda: totals(row, -1), lambda: lost(row, FAR),
        lambda: settled_round(row), lambda: long_run(row), lambda: first_missed(row, name, 3),
        lambda: first_missed(row, name, FAR + 1), lambda: held_back(row, name), lambda: change_without(row, name),
        lambda: change_without(row, "no"), lambda: least_capacity(row, name, 1), lambda: least_capacity(row, name, -1),
        lambda: best_place(row, ("new", 3, 1, (1,) * ticks)), lambda: best_place(row, (name, 3, 1, (1,) * ticks)),
        lambda: first_difference(row, other, name), lambda: first_difference(row, row.with_rain(0, 4), name),
        lambda: row.with_capacity(name, 3).barrels, lambda: row.with_capacity(name, -3), lambda: row.with_rain(0, -1),
        lambda: (row - name).barrels, lambda: row[name], lambda: len(row), lambda: name in row,
        lambda: (row + Row.equal(row.rain, 3, "plus")).barrels, lambda: (row + row).barrels,
        lambda: row == other, lambda: RainObserver(row, 0).see(name, 4, 2), lambda: RainObserver(row, 99),
    ] + questions_of_part_two(row, name)


def questions_of_part_two(row, name):
    weather = SpellWeather(3, 2, 2) + StormWeather(9, 1, 4)
    daybook = Daybook(row, f"rain 4\nrain ?\nlevel {name} 3\nrain 1")
    text = format_row(row)
    code = encode_row(row)
    return [
        lambda: weather.fall_in(FAR), lambda: weather.fall_in(-1), lambda: (weather + weather).fall_in(5),
        lambda: list(played(row, weather, 9)), lambda: outcome(row, weather, 9), lambda: driest_tick(row, weather, 9),
        lambda: outcome(row, weather, -1), lambda: SteadyWeather(-1),
        lambda: LiveRow.replay(row, ("pour", 5), ("lock", name), ("pour", 5)).levels,
        lambda: LiveRow.replay(row, ("pour", 5), ("scoop", name)), lambda: LiveRow(row).scoop("no", 0),
        lambda: format_row(row), lambda: parse_row(text).barrels, lambda: parse_row(text + " "),
        lambda: chart(row, FAR), lambda: chart(row, -1), lambda: daybook.unknown_range(),
        lambda: daybook.levels_after(3), lambda: daybook.levels_after(-1), lambda: daybook.tick_count,
        lambda: Daybook(row, "rain"), lambda: encode_row(row), lambda: decode_row(code).barrels,
        lambda: decode_row(code + [1]),
    ]


def answer(question):
    """Return what a call returns, or the kind of error that it raises, and what this error tells."""
    try:
        return question()
    except RowError as error:
        return type(error), vars(error)


class Answers(unittest.TestCase):
    def test_answers_do_not_depend_on_the_order(self):
        rng = random.Random(11)
        for _ in range(40):
            row, other = small_row(rng), small_row(rng)
            before = (row.rain, row.barrels, row.names)
            asked = questions(row, other)
            first = [answer(question) for question in asked]
            kept = copy.deepcopy(first)
            order = list(range(len(asked))) * 2
            rng.shuffle(order)
            for at in order:
                self.assertEqual(answer(asked[at]), kept[at])
            self.assertEqual(first, kept)
            self.assertEqual((row.rain, row.barrels, row.names), before)
            again = Row(row.rain, *row.barrels)
            for at, question in enumerate(questions(again, other)):
                self.assertEqual(answer(question), kept[at])

    def test_equal_rows_answer_alike_in_any_order(self):
        for row in slow_rows():
            ticks = [FAR, 0, 10 ** 9, 5, FAR - 1]
            name = row.names[-1]
            found = [row(name, tick) for tick in ticks]
            self.assertEqual([row(name, tick) for tick in reversed(ticks)], list(reversed(found)))
            self.assertEqual([Row(row.rain, *row.barrels)(name, tick) for tick in ticks], found)


class Values(unittest.TestCase):
    def test_returned_dicts_may_be_modified(self):
        row = Row((9, 0), ("up", 5, 1, (0, 5)), ("low", 4, 0, (0, 4)))
        daybook = Daybook(row, "rain 9\nrain ?")
        live = LiveRow.replay(row, ("pour", 9))
        calls = (lambda: totals(row, 7), lambda: long_run(row), lambda: change_without(row, "up"),
                 lambda: daybook.levels_after(3), lambda: live.levels)
        for call in calls:
            kept = dict(call())
            self.assertTrue(kept)
            found = call()
            found.clear()
            found["new"] = 1
            self.assertEqual(call(), kept)
            self.assertIs(type(found), dict)

    def test_returned_lists_may_be_modified(self):
        observer = RainObserver(example(), 0)
        observer.see("top", 0, 3)
        records = observer.records
        self.assertIs(type(records), list)
        records.append("more")
        records[0] = None
        self.assertEqual(observer.records, [("top", 0, 3)])
        observer.see("top", 0, 3)
        self.assertEqual(len(records), 2)
        self.assertEqual(records, [None, "more"])
        self.assertEqual(observer.see("end", 0, 1), 1)

    def test_the_arguments_of_a_row_are_not_modified_or_kept(self):
        barrels = [("a", 4, 1, (0, 2)), ("b", 2, 1, (1, 1))]
        row = Row((3, 0), *barrels)
        barrels.append(("c", 1, 1, (0, 0)))
        barrels[0] = None
        self.assertEqual(row.barrels, (("a", 4, 1, (0, 2)), ("b", 2, 1, (1, 1))))
        self.assertEqual(len(row), 2)

    def test_an_observer_does_not_change_its_row(self):
        row = example()
        observer = RainObserver(row, 0)
        observer.see("top", 0, 1)
        self.assertEqual(row, example())
        self.assertEqual(RainObserver(row, 0).possible_rain, (0, 10 ** 6))

    def test_kinds_of_values(self):
        row = example()
        for value in (row("top", 1), lost(row, 3), settled_round(row), held_back(row, "top"), len(row),
                      first_missed(Row((3, 0), ("top", 4, 1, (0, 5))), "top", 0), least_capacity(row, "top", 0),
                      first_difference(row, row.with_rain(1, 2), "top"), RainObserver(row, 0).see("top", 0, 3)):
            self.assertIs(type(value), int)
        for flow in list(totals(row, 3).values()) + list(long_run(row).values()):
            self.assertIs(type(flow), tuple)
        self.assertIs(type(RainObserver(row, 0).possible_rain), tuple)
        self.assertIs(type(RainObserver(row, 0).level_range("top", 0)), tuple)


class Failures(unittest.TestCase):
    def test_a_call_that_raises_changes_nothing(self):
        row = example()
        observer = RainObserver(row, 0)
        observer.see("top", 0, 3)
        for call in (lambda: observer.see("mid", 0, 3), lambda: observer.see("top", -1, 3),
                     lambda: observer.see("top", 0, 2), lambda: observer.level_range("mid", 0),
                     lambda: observer.level_range("top", -1), lambda: row - "mid", lambda: row + row,
                     lambda: row.with_rain(2, 1), lambda: row.with_capacity("top", -1), lambda: list(row)):
            with self.assertRaises((RowError, TypeError)):
                call()
            self.assertEqual(row, example())
            self.assertEqual(observer.possible_rain, (3, 3))
            self.assertEqual(observer.records, [("top", 0, 3)])
            self.assertEqual(observer.level_range("end", 0), (1, 1))

    def test_errors_are_of_the_package(self):
        with self.assertRaises(RowError):
            Row(())
        with self.assertRaises(ValueError):
            totals(example(), -1)
        with self.assertRaises(InvalidNumber):
            RainObserver(example(), 2)
        with self.assertRaises(Contradiction):
            RainObserver(example(), 0).see("top", 0, 5)


if __name__ == "__main__":
    unittest.main()
